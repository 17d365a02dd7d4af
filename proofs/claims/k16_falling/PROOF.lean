import PyProof.Rows.All
import Wide.All
import OpenK.AllK
import Wide.FinOn
import Lean
import PyProof.EqAt
import PyProof.EqKinds
import PyProof.TupleCall
import PySem.Challenge.RW_quotefind_k16_falling
set_option Elab.async false
set_option linter.all false
set_option maxRecDepth 100000
set_option hygiene false in
local macro_rules
|`(tactic|o_head $H)=>`(tactic|refine holds_open (q:=HD.q HD.pw) (loose:=HD.loose) (Xt:=HD.Xt HD.pw []) (XP:=XL (HD.q HD.pw) []) (Yf:=Hook.obs $H) (Ya:=Hook.val $H) (YP:=Hook.says $H) (d:=HD.d) (kwd:=[]) (N:=HD.JQ) (HD.left HD.pw HD.Wi $H fun w os=>by kernel_rfl) (Hook.of $H) (Hook.keeps $H) (fun s e=>xl_of s (Bool.and_eq_true_iff.mp e).1) XL.keeps (by kernel_rfl) (by kernel_rfl) (by kernel_rfl) (fun s e=>recFacts_of (Bool.and_eq_true_iff.mp e).2) (by rfl) (by assumption) (by decide+kernel) ⟨rfl,rfl,rfl,rfl,rfl,by decide+kernel⟩ ?hw ?hc)
|`(W9 $a $b)=>`(@ak _ _ _ _ _ $a $b (by rfl))
|`(W_ $a $b $c)=>`(@aH _ _ $a _ _ _ _ $b (by exact rfl) (Or.inl rfl) $c (by rfl) (by exact .inl rfl))
|`(W' $a $b $c)=>`(@aO _ _ _ _ _ _ _ _ _ _ _ _ $a (hr.mono (by decide)) $b $c (by rfl) (by decide) (by rfl) (by rfl))
|`(Xa $a $b $c)=>`(@aL _ _ $a _ $b (by exact rfl) $c (by first|exact .inl rfl|exact .inr rfl|assumption))
|`(Xb $a $b $c)=>`(@aG _ _ _ _ _ _ _ $a $b $c (fun _ _=>rfl))
|`(Xc $a)=>`(List.getElem?_eq_some_iff.mp $a)
|`(Xd $a $b)=>`(@aE _ $a _ _ _ _ $b (by rfl) (by rfl))
|`(Xe $a $b $c $d $e)=>`(@aT _ _ _ _ _ _ _ _ _ $a $b $c $d $e (by decide) (by decide) (by rfl) (by rfl))
|`(Xf $a $b $c)=>`(@aI _ _ _ _ _ _ _ _ $a $b $c)
|`(Xg $a $b $c $d $e $f $g)=>`(@eP _ $a _ _ _ _ _ _ _ _ _ _ _ $b $c $d $e $f $g (by rfl) (by rfl) (by rfl) (by rfl) (by rfl) (by rfl))
|`(Xh $a $b $c $d $e)=>`(@bG _ _ _ _ _ _ _ _ _ _ _ _ _ _ _ _ $a $b $c $d $e (by rfl) (by rfl) (by rfl))
|`(Xi $a)=>`(@fA _ _ _ _ _ _ $a (by first|exact bq _ (by decide) (by decide)|rfl))
|`(Xj $a)=>`(List.mem_of_getElem? $a)
|`(Xk $a $b)=>`(@av _ _ _ _ _ $a $b)
|`(Xl $a)=>`(@ao _ _ _ $a)
|`(Xm $a)=>`(if_neg $a)
|`(Xn $a $b)=>`(@aD _ _ _ _ _ $a $b)
|`(Xo $a)=>`(Heap.get?_push_of_some _ $a)
|`(Xp $a)=>`(if_pos $a)
|`(Xq $a $b $c)=>`(@bj _ _ _ _ _ _ _ _ $a $b $c)
|`(Xr $a $b $c)=>`(@bX _ $a _ _ _ _ _ _ _ $b $c (by rfl) (by rfl))
|`(Xs $a)=>`(Option.some.inj $a)
set_option hygiene false in
local macro_rules
|`(Xu)=>`((by lia))
|`(Xv)=>`((model X.prog X.w))
|`(Xw)=>`((by exact rfl))
|`(Xx)=>`((model prog w))
|`(Xy)=>`((by simp))
|`(Xz)=>`((by omega))
|`(XA)=>`((fun vs H Q E h=>?_))
|`(XB)=>`(by omega)
|`(XC)=>`(by decide)
|`(XD)=>`(by rfl)
|`(XE)=>`(by simp)
namespace L2
open PySem PySem.Spec PyProof.Rows
abbrev Key:=Sum Int Str
def uP:Key→Value→Bool
 | .inl k,v=>Value.isInt k v
 | .inr x,v=>Value.isStrOf x v
def Oi(w:World):Key→Int
 | .inl k=>hashInt k
 | .inr x=>hashStr w x
theorem cR:∀{k:Key}{v:Value},uP k v=true→(∃i t,k=Sum.inl i∧v=Value.int i t)∨(∃x t,k=Sum.inr x∧v=Value.str x t)
 | .inl i,v,h=>by
  obtain⟨t,e⟩:=Value.isInt_shape (k:=i) (v:=v) h;exact .inl ⟨i,t,rfl,e⟩
 | .inr x,v,h=>by
  obtain⟨t,e⟩:=Value.isStrOf_shape (x:=x) (v:=v) h;exact .inr ⟨x,t,rfl,e⟩
theorem Av(i:Int)(t:Tok):uP (.inl i) (.int i t)=true:=by simp[uP,Value.isInt]
theorem Aw(x:Str)(t:Tok):uP (.inr x) (.str x t)=true:=by simp[uP,Value.isStrOf]
theorem Hb(a b:Int):decide ((Sum.inl a:Key)=Sum.inl b)=(a==b):=by
 by_cases e:a=b
 ·subst e;simp
 ·have h:¬(Sum.inl a:Key)=Sum.inl b:=fun q=>e (Sum.inl.inj q)
  rw[decide_eq_false h];exact(beq_eq_false_iff_ne.mpr e).symm
theorem Hd(a b:Str):decide ((Sum.inr a:Key)=Sum.inr b)=decide (a=b):=by
 by_cases e:a=b
 ·subst e;simp
 ·have h:¬(Sum.inr a:Key)=Sum.inr b:=fun q=>e (Sum.inr.inj q)
  rw[decide_eq_false h,decide_eq_false e]
theorem He(a:Int)(b:Str):decide ((Sum.inl a:Key)=Sum.inr b)=false:=decide_eq_false (fun q=>nomatch q)
theorem Hf(a:Str)(b:Int):decide ((Sum.inr a:Key)=Sum.inl b)=false:=decide_eq_false (fun q=>nomatch q)
def cS(prog:Program)(w:World):PySem.KeyKind prog w Key where
 is:=uP
 hash:=Oi w
 inj:=fun v a b ha hb=>by
  rcases cR ha with⟨i,t,rfl,rfl⟩|⟨x,t,rfl,rfl⟩
  ·rcases cR hb with⟨j,u,rfl,e⟩|⟨y,u,rfl,e⟩
   ·injection e with e1 _;rw[e1]
   ·exact nomatch e
  ·rcases cR hb with⟨j,u,rfl,e⟩|⟨y,u,rfl,e⟩
   ·exact nomatch e
   ·injection e with e1 _;rw[e1]
 byValue:=fun k v h=>by
  rcases cR h with⟨i,t,rfl,rfl⟩|⟨x,t,rfl,rfl⟩<;>rfl
 pyHash:=fun hv h=>by
  rcases cR hv with⟨i,t,rfl,rfl⟩|⟨x,t,rfl,rfl⟩
  ·exact wpAny_pyHash_int h
  ·exact wpAny_pyHash_str h
 eqBool:=fun hu hv h=>by
  rcases cR hu with⟨i,t,rfl,rfl⟩|⟨x,t,rfl,rfl⟩
  ·rcases cR hv with⟨j,u,rfl,rfl⟩|⟨y,u,rfl,rfl⟩
   ·rw[Hb]at h;exact wpAny_eqBool_int h
   ·rw[He]at h;exact SeqAt.EqAt.int_str i t y u _ _ _ _ h
  ·rcases cR hv with⟨j,u,rfl,rfl⟩|⟨y,u,rfl,rfl⟩
   ·rw[Hf]at h;exact SeqAt.EqAt.str_int x t j u _ _ _ _ h
   ·rw[Hd]at h;exact wpAny_eqBool_str h
 «strs»:=fun k x t v h=>by
  rcases cR h with⟨i,u,rfl,e⟩|⟨y,u,rfl,e⟩
  ·exact nomatch e
  ·injection e with e1 _;subst e1;cases v<;>rfl
theorem wZ(prog:Program)(w:World)(i:Int)(t:Tok):(cS prog w).is (.inl i) (.int i t)=true:=Av i t
theorem w6(prog:Program)(w:World)(x:Str)(t:Tok):(cS prog w).is (.inr x) (.str x t)=true:=Aw x t
inductive V where
 |cI|bl (b:Bool)|int (i:Int)|str (x:Str)|Ax (b:Array UInt8)|FV (b:UInt64)|ref (a:Addr)|ty (n:String)
 deriving DecidableEq
def RelV:V→Value→Prop
 | .cI,u=>u=Value.none
 | .bl b,u=>u=Value.bool b
 | .int i,u=>∃t,u=Value.int i t
 | .str x,u=>∃t,u=Value.str x t
 | .Ax b,u=>∃t,u=Value.bytes b t
 | .FV b,u=>∃t,u=Value.float b t
 | .ref a,u=>u=Value.ref a
 | .ty n,u=>u=Value.type n
abbrev Vals:List V→List Value→Prop:=Paired RelV
theorem Vals.length{xs:List V}{us:List Value}(r:Vals xs us):xs.length=us.length:=Paired.length r
theorem Vals.get:∀{xs:List V}{us:List Value}{i:Nat}{x:V},Vals xs us→xs[i]?=some x→∃u,us[i]?=some u∧RelV x u
 | _,_,_,_, .nil,e=>by simp at e
 | _,_,0,_, .cons r _,e=>by simp at e;subst e;exact⟨_,rfl,r⟩
 | _,_,i+1,x, .cons _ t,e=>by
  obtain⟨u,h1,h2⟩:=Vals.get (i:=i) (x:=x) t (by simpa using e);exact⟨u,by simpa using h1,h2⟩
theorem Vals.set{x:V}{u:Value}(r:RelV x u):∀{xs:List V}{us:List Value}(i:Nat),Vals xs us→Vals (xs.set i x) (us.set i u)
 | _,_,_, .nil=> .nil
 | _,_,0, .cons _ t=> .cons r t
 | _,_,i+1, .cons q t=> .cons q (Vals.set r i t)
theorem Vals.append:∀{xs ys:List V}{us ws:List Value},Vals xs us→Vals ys ws→Vals (xs++ys) (us++ws)
 | _,_,_,_, .nil,s=>s
 | _,_,_,_, .cons r t,s=> .cons r (Vals.append t s)
theorem Vals.take:∀{xs:List V}{us:List Value}(n:Nat),Vals xs us→Vals (xs.take n) (us.take n)
 | _,_,0,_=> .nil
 | _,_,_+1, .nil=> .nil
 | _,_,n+1, .cons r t=> .cons r (Vals.take n t)
theorem Vals.drop:∀{xs:List V}{us:List Value}(n:Nat),Vals xs us→Vals (xs.drop n) (us.drop n)
 | _,_,0,r=>r
 | _,_,_+1, .nil=> .nil
 | _,_,n+1, .cons _ t=>Vals.drop n t
def lz:Option V→Option Value→Prop
 |some v,some u=>RelV v u
 |none,none=>True
 | _,_=>False
def KV{κ:Type}:List (κ×V)→List (κ×Value)→Prop:=Paired fun(p:κ×V)(q:κ×Value)=>p.1=q.1∧RelV p.2 q.2
def kV:Key→V
 | .inl i=> .int i
 | .inr x=> .str x
inductive HO where
 |lst (xs:List V)
 |tup (xs:List V)
 |dK (kvs:List (Key×V))|dT (kvs:List (List Key×V))
 |set (S:Int→Bool) (n:Nat)
 |ins (C dx:Addr) (fs:List (Str×V))
 |own (x:Addr)
 |xd (fs:List (Str×V))
 |met (f x:Addr)
 |M4 (lo hi:Int)
 |sN (o:Obj) (u:HO)
 |Ef (ps:Array Value)
 |ext (φ:Heap→Prop)
abbrev Hp:=Addr→Option HO
def upd(H:Hp)(a:Addr)(o:HO):Hp:=fun b=>if b=a then some o else H b
theorem ae{H:Hp}{a:Addr}{o:HO}:upd H a o a=some o:=by unfold upd;rw[if_pos rfl]
theorem ai{H:Hp}{a b:Addr}{o:HO}(h:b≠a):upd H a o b=H b:=by unfold upd;rw[Xm h]
theorem gf{H:Hp}{a:Addr}{o u:HO}:upd (upd H a o) a u=upd H a u:=by
 funext b;unfold upd;split<;>rfl
theorem jy{H:Hp}{a b:Addr}{o u:HO}(h:H a=some o)(h':H b=some u)(d:o≠u):a≠b:=by
 intro e;subst e;rw[h]at h';exact d (Xs h')
theorem aA{H:Hp}{a b:Addr}{o:HO}(h:H a=some o)(h':H b=none):a≠b:=by
 intro e;subst e;rw[h]at h';cases h'
section
variable(P:Program)(w:World)
def cJ(H:Hp)(h:Heap)(a:Addr):HO→Prop
 | .lst xs=>xs.length≤sizeLine∧∃(its:List Value)(n:Nat),Vals xs its∧h.get? a=some {cls:= .type "list",data:= .seq its.toArray n}
 | .tup xs=>xs.length≤sizeLine∧∃its:List Value,Vals xs its∧IsTup h a its.toArray
 | .dK kvs=>kvs.length≤sizeLine∧(a==sysModules)=false∧∃vs,KV kvs vs∧h.DictOf (cS P w) a vs
 | .dT kvs=>kvs.length≤sizeLine∧(a==sysModules)=false∧∃xs:List (List Key×Addr×Value),
   Paired (fun(p:List Key×V)(q:List Key×Addr×Value)=>p.1=q.1∧H q.2.1=some (.tup (p.1.map kV))∧RelV p.2 q.2.2) kvs xs∧
   ∃o es ep,h.get? a=some o∧o.ExactDict∧o.data= .dict es ep∧es.toList=xs.map (entryOfKey (tupleKind (cS P w)))∧(xs.map (·.1)).Nodup
 | .set S n=>h.SetOf (intKind P w) a S n
 | .ins C dx fs=>H dx=some (.own a)∧fs.length≤1000∧dx≠a∧h.get? a=some (PySem.W.instObj C dx)∧
   ∃mA,h.Ns1 dx mA∧(∀f,lz (fs.lookup f) (mA f))∧PySem.Within mA (fs.map (·.1))
 | .own _=>∃o,h.get? a=some o
 | .xd fs=>∃mA,h.Ns1 a mA∧∀f,lz (fs.lookup f) (mA f)
 | .M4 lo hi=>∃t u v,h.get? a=some {cls:= .type "range",data:= .fields #[.int lo t, .int hi u, .int 1 v]}
 | .sN o u=>h.get? a=some o∧cJ H h a u
 | .Ef ps=>h.get? a=some {cls:= .none,data:= .fields ps}
 | .met f x=>h.get? a=some (PySem.W.methodObj (.ref f) (.ref x))
 | .ext φ=>φ h∧(∃o,h.get? a=some o)∧∀h1 h2:Heap,φ h1→(∀o,h1.get? a=some o→h2.get? a=some o)→φ h2
def mH(H:Hp)(h:Heap):Prop:=∀a o,H a=some o→cJ P w H h a o
end
section
variable{P:Program}{w:World}{H H':Hp}{h h':Heap}{a:Addr}{o:HO}
theorem cJ.lt(x:cJ P w H h a o):a<h.objs.size:=by
 cases o with
 |lst xs=>obtain⟨_,_,_,_,e⟩:=x;exact Heap.lt_size e
 |tup xs=>obtain⟨_,_,_,p⟩:=x;exact p.lt
 |dK kvs=>obtain⟨_,_,_,_,o,_,_,e,_⟩:=x;exact Heap.lt_size e
 |dT kvs=>obtain⟨_,_,_,_,o,_,_,e,_⟩:=x;exact Heap.lt_size e
 |set S n=>obtain⟨o,_,_,_,e,_⟩:=x;exact Heap.lt_size e
 |ins C dx fs=>obtain⟨_,_,_,e,_⟩:=x;exact Heap.lt_size e
 |own y=>obtain⟨_,e⟩:=x;exact Heap.lt_size e
 |xd fs=>obtain⟨_,⟨_,_,_,e,_⟩,_⟩:=x;exact Heap.lt_size e
 |M4 lo hi=>obtain⟨_,_,_,e⟩:=x;exact Heap.lt_size e
 |sN ob u=>obtain⟨e,_⟩:=x;exact Heap.lt_size e
 |Ef ps=>exact Heap.lt_size (show h.get? a=some _ from x)
 |met f y=>exact Heap.lt_size (show h.get? a=some _ from x)
 |ext φ=>obtain⟨_,⟨_,e⟩,_⟩:=x;exact Heap.lt_size e
theorem Paired.Hg{α β:Type}{F G:α→β→Prop}:∀{Kt:List α}{Ku:List β},Paired F Kt Ku→(∀a b,F a b→G a b)→Paired G Kt Ku
 | _,_, .nil,_=> .nil
 | _,_, .cons r t,f=> .cons (f _ _ r) (Paired.Hg t f)
theorem cJ.vz(x:cJ P w H h a o)(k:∀b u,(b=a∨H b=some (.own a))→h.get? b=some u→h'.get? b=some u)
  (ho:∀b,H b=some (.own a)→H' b=some (.own a)) (ht:∀b xs,H b=some (.tup xs)→H' b=some (.tup xs)):cJ P w H' h' a o:=by
 induction o with
 |lst xs=>obtain⟨z,its,n,r,e⟩:=x;exact⟨z,its,n,r,k _ _ (.inl rfl) e⟩
 |tup xs=>obtain⟨z,its,r,ob,e,c⟩:=x;exact⟨z,its,r,ob,k _ _ (.inl rfl) e,c⟩
 |dK kvs=>obtain⟨z,y,vs,r,ob,es,ep,e,c⟩:=x;exact⟨z,y,vs,r,ob,es,ep,k _ _ (.inl rfl) e,c⟩
 |dT kvs=>
  obtain⟨z,y,xs,r,ob,es,ep,e,c⟩:=x;exact⟨z,y,xs,Paired.Hg r fun p q z=>⟨z.1,ht _ _ z.2.1,z.2.2⟩,ob,es,ep,k _ _ (.inl rfl) e,c⟩
 |set S n=>obtain⟨ob,es,ep,t,e,c⟩:=x;exact⟨ob,es,ep,t,k _ _ (.inl rfl) e,c⟩
 |ins C dx fs=>
  obtain⟨d,z,ne,e,mA,⟨od,es,ep,e2,c⟩,r⟩:=x;exact⟨ho _ d,z,ne,k _ _ (.inl rfl) e,mA,⟨od,es,ep,k _ _ (.inr d) e2,c⟩,r⟩
 |own y=>obtain⟨ob,e⟩:=x;exact⟨ob,k _ _ (.inl rfl) e⟩
 |xd fs=>obtain⟨mA,⟨od,es,ep,e,c⟩,r⟩:=x;exact⟨mA,⟨od,es,ep,k _ _ (.inl rfl) e,c⟩,r⟩
 |M4 lo hi=>obtain⟨t,u,v,e⟩:=x;exact⟨t,u,v,k _ _ (.inl rfl) e⟩
 |sN ob u ih=>obtain⟨e,q⟩:=x;exact⟨k _ _ (.inl rfl) e,ih q⟩
 |Ef ps=>
  have e:h.get? a=some {cls:= .none,data:= .fields ps}:=x;show h'.get? a=some {cls:= .none,data:= .fields ps};exact k a _ (.inl rfl) e
 |met f y=>
  have e:h.get? a=some (PySem.W.methodObj (.ref f) (.ref y)):=x;show h'.get? a=some (PySem.W.methodObj (.ref f) (.ref y));exact k a _ (.inl rfl) e
 |ext φ=>obtain⟨p,⟨o,e⟩,st⟩:=x;exact⟨st _ _ p fun o q=>k _ _ (.inl rfl) q,⟨o,k _ _ (.inl rfl) e⟩,st⟩
theorem mH.lt(x:mH P w H h)(e:H a=some o):a<h.objs.size:=(x a o e).lt
theorem mH.fresh(x:mH P w H h)(e:h.objs.size≤a):H a=none:=by
 cases q:H a with
 |none=>rfl
 |some u=>exact absurd (Nat.lt_of_lt_of_le (x.lt q) e) (Nat.lt_irrefl _)
theorem mH.kept(x:mH P w H h)(k:∀b u,h.get? b=some u→h'.get? b=some u):mH P w H h':=fun a o e=>
 (x a o e).vz (fun b u _ q=>k b u q) (fun _ q=>q) fun _ _ q=>q
theorem mH.laid(x:mH P w H h)(k:∀b u,h.get? b=some u→h'.get? b=some u)(hp:h.objs.size≤a)(new:cJ P w (upd H a o) h' a o):mH P w (upd H a o) h':=fun b u e=>by
 have hn:=x.fresh hp;by_cases hb:b=a
 ·subst hb;rw[ae]at e;cases e;exact new
 ·rw[ai hb]at e;exact(x b u e).vz (fun c v _ q=>k c v q) (fun c q=>by rw[ai (aA q hn)];exact q) fun c xs q=>by rw[ai (aA q hn)];exact q
end
def Rd(H:Hp)(a:Addr)(u:HO):Prop:=H a=some u∨∃o,H a=some (.sN o u)
theorem Rd.of{H:Hp}{a:Addr}{u:HO}(h:H a=some u):Rd H a u:= .inl h
theorem Rd.ok{P:Program}{w:World}{H:Hp}{h:Heap}{a:Addr}{u:HO}(r:Rd H a u)(x:mH P w H h):cJ P w H h a u:=by
 rcases r with r|⟨o,r⟩
 ·exact x a u r
 ·obtain⟨_,q⟩:=x a _ r;exact q
def Kv:Option HO→Prop
 |some (.lst _)=>True
 |some (.dK _)=>True
 |some (.dT _)=>True
 |some (.set _ _)=>True
 |some (.ins _ _ _)=>True
 |some (.ext _)=>True
 | _=>False
section
variable{P:Program}{w:World}{H:Hp}{h h':Heap}{x e:Addr}{o':HO}
theorem mH.write(ok:mH P w H h)(mu:Kv (H x))(he:e=x∨H e=some (.own x))(k:∀b u,b≠e→h.get? b=some u→h'.get? b=some u)(JV:∃u,h'.get? e=some u)
  (new:cJ P w (upd H x o') h' x o'):mH P w (upd H x o') h':=fun b u q=>by
 have Kx:∀c y,H c=some (.own y)→c≠x:=fun c y r z=>by subst z;rw[r]at mu;exact mu
 have Oj:∀c xs,H c=some (.tup xs)→c≠x:=fun c xs r z=>by subst z;rw[r]at mu;exact mu
 by_cases hb:b=x
 ·subst hb;rw[ae]at q;cases q;exact new
 ·rw[ai hb]at q;by_cases Hh:b=e
  ·have q':H b=some (.own x):=by
    rcases he with z|z
    ·exact absurd (Hh.trans z) hb
    ·rw[Hh];exact z
   rw[q]at q';cases q';obtain⟨v,hv⟩:=JV;exact⟨v,by rw[Hh];exact hv⟩
  ·refine(ok b u q).vz (fun c v hc r=>k c v ?_ r) (fun c r=>by rw[ai (Kx c b r)];exact r) fun c xs r=>by rw[ai (Oj c xs r)];exact r
   rcases hc with rfl|hc
   ·exact Hh
   ·rintro rfl;rcases he with z|z
    ·exact Kx c b hc z
    ·rw[hc]at z;cases z;exact hb rfl
end
structure Un(fs ex:List Addr)(H H':Hp)(h h':Heap):Prop where
 keep:∀b o,h.get? b=some o→H b=none→b∉fs→b∉ex→h'.get? b=some o
 slot:∀b o,h.get? b=some o→H b=none→b∈fs→b∉ex→∃sl,h'.get? b=some {o with slots:=sl}
 free:∀b o,h.get? b=some o→H b=none→b∉ex→H' b=none
 there:∀b o,h.get? b=some o→b∉ex→∃o',h'.get? b=some o'
 cq:∀b xs,H b=some (.tup xs)→H' b=some (.tup xs)
 pD:∀b o u,H b=some (.sN o u)→H' b=some (.sN o u)
 sj:∀b ps,H b=some (.Ef ps)→∃more,H' b=some (.Ef (ps++more))
section
variable{fs Tf ex Ws:List Addr}{H H1 H2:Hp}{h h1 h2 h':Heap}{a x e:Addr}{o:HO}
theorem Un.any(u:Un fs ex H H1 h h1){b:Addr}{ob:Obj}(q:h.get? b=some ob)(n:H b=none)(hx:b∉ex):∃sl,h1.get? b=some {ob with slots:=sl}:=by
 by_cases hb:b∈fs
 ·exact u.slot b ob q n hb hx
 ·exact⟨ob.slots,u.keep b ob q n hb hx⟩
theorem Un.kept(k:∀b u,h.get? b=some u→h'.get? b=some u):Un fs ex H H h h':=
 ⟨fun b ob q _ _ _=>k b ob q,fun b ob q _ _ _=>⟨ob.slots,k b ob q⟩,fun _ _ _ n _=>n,fun b ob q _=>⟨ob,k b ob q⟩,fun _ _ q=>q,fun _ _ _ q=>q,fun _ ps q=>⟨#[],by rw[q];simp⟩⟩
theorem Un.refl:Un fs ex H H h h:=Un.kept fun _ _ q=>q
theorem Un.laid(k:∀b u,h.get? b=some u→h'.get? b=some u)(hp:h.objs.size≤a)(hn:H a=none):Un fs ex H (upd H a o) h h' where
 keep:=fun b u q _ _ _=>k b u q
 slot:=fun b u q _ _ _=>⟨u.slots,k b u q⟩
 free:=fun b u q n _=>by rw[ai (Nat.ne_of_lt (Nat.lt_of_lt_of_le (Heap.lt_size q) hp))];exact n
 there:=fun b u q _=>⟨u,k b u q⟩
 cq:=fun b xs q=>by rw[ai (aA q hn)];exact q
 pD:=fun b u xs q=>by rw[ai (aA q hn)];exact q
 sj:=fun b ps q=>⟨#[],by rw[ai (aA q hn),q];simp⟩
theorem Un.write(mu:Kv (H x))(he:e=x∨H e=some (.own x))(k:∀b u,b≠e→h.get? b=some u→h'.get? b=some u)(JV:∃u,h'.get? e=some u):Un fs ex H (upd H x o) h h':=by
 have hx:∀b,H b=none→b≠x:=fun b n z=>by subst z;rw[n]at mu;exact mu
 have hb:∀b,H b=none→b≠e:=fun b n z=>by
  subst z;rcases he with r|r
  ·exact hx b n r
  ·rw[n]at r;cases r
 have hm:∀b u,H b=some u→¬Kv (some u)→b≠x:=fun b u q nm z=>by subst z;rw[q]at mu;exact nm mu
 refine⟨fun b u q n _ _=>k b u (hb b n) q,fun b u q n _ _=>⟨u.slots,k b u (hb b n) q⟩,fun b u q n _=>by rw[ai (hx b n)];exact n,fun b u q _=>?_,
  fun b xs q=>by rw[ai (hm b _ q fun z=>z)];exact q,fun b u xs q=>by rw[ai (hm b _ q fun z=>z)];exact q,fun b ps q=>⟨#[],by rw[ai (hm b _ q fun z=>z),q];simp⟩⟩
 by_cases Hh:b=e
 ·subst Hh;exact JV
 ·exact⟨u,k b u Hh q⟩
end
def M5(h:Heap)(H:Hp):List Addr:=(List.range h.objs.size).filter fun a=>(H a).isSome
def vA(h:Heap)(H:Hp):Heap:=PySem.W.hideAll h (M5 h H)
theorem Ay(h:Heap)(H:Hp):(vA h H).objs.size=h.objs.size:=PySem.W.hideAll_size _ _
theorem BI{h:Heap}{H:Hp}{b:Addr}{o:Obj}(e:h.get? b=some o)(n:H b=none):(vA h H).get? b=some o:=
 PySem.W.hideAll_get _ e fun hm=>by
  have q:(H b).isSome=true:=(List.mem_filter.mp hm).2;rw[n]at q;simp at q
theorem Eh{h:Heap}{H:Hp}{b:Addr}{o:Obj}(e:(vA h H).get? b=some o):h.get? b=some o∧H b=none:=by
 have e':h.get? b=some o:=PySem.W.of_hideAll (M5 h H) e;refine⟨e',?_⟩;cases q:H b with
 |none=>rfl
 |some x=>
  have hm:b∈M5 h H:=List.mem_filter.mpr ⟨List.mem_range.mpr (Heap.lt_size e'),by simp[q]⟩;have z:(vA h H).get? b=none:=PySem.W.hideAll_none (M5 h H) hm;rw[z]at e;cases e
def Ei(g h:Heap)(L:Addr):List (Addr×Obj):=(List.range h.objs.size).filterMap fun a=>if a=L∨(g.get? a).isSome=true then none else(h.get? a).map fun o=>(a,o)
def rest(g h:Heap)(L d:Addr):List (Addr×Obj):=(Ei g h L).filter fun p=>decide (p.1≠d)
structure Mod(K:PySem.W.Frag)(mg:Str→Option Value)(base:Heap):Prop where
 JW:K.In base
 glob:base.Ns mainGlobals mg
 blt:∃mb,base.Ns builtinsNs mb∧∀x:Str,x≠"__name__"→mb x=bootBuiltins x
 nolimit:base.NoLimit
structure Cx where
 prog:Program
 w:World
 K:PySem.W.Frag
 mg:Str→Option Value
 base:Heap
 A:Around
 N:List Str
 de:Shared
 eL:Hp
 env:Env
 outer:List Env
 stack:List Env
 ex:List Addr
 fn:Str→Bool
 calm:Bool
 pn:List (Addr×Obj)
 xe:Value→Shared→Prop
def pB(l:List Env):List Addr:=l.filterMap (·.frame)
abbrev Cx.fs(X:Cx):List Addr:=pB X.outer
def Ol(sc:Scope)(x:Str):Prop:=sc.names.lookup x=some .local∨sc.names.lookup x=some .cell∨sc.names.lookup x=some .free
def Loc(sc:Scope)(x:Str):Prop:=sc.names.lookup x=some .local∨sc.names.lookup x=some .cell
def Look(env:Env)(h:Heap)(m:Str→Option Value)(x:Str)(u:Value):Prop:=
 (env.kindOf x=some .local∧m x=some u)∨((env.kindOf x=some .cell∨env.kindOf x=some .free)∧∃c,env.cells.lookup x=some c∧h.IsCell c (some u))
structure Cx.Ok(X:Cx):Prop where
 mod:Mod X.K X.mg X.base
 kind:X.env.scope.kind= .function
 glob:X.env.globals=mainGlobals
 blt:X.env.builtins=builtinsNs
 above:X.de.heap.objs.size≤X.env.locals
 inj:∀x y c,X.env.cells.lookup x=some c→X.env.cells.lookup y=some c→x=y
 has:∀x,(X.env.kindOf x=some .cell∨X.env.kindOf x=some .free)→∃c,X.env.cells.lookup x=some c
 Om:∀x c,X.fn x=true→X.env.cells.lookup x=some c→X.de.heap.objs.size≤c
 hd:X.calm=true→X.A.handled=none
 frames:X.A.frames=some X.stack
 Q5:X.stack=X.outer∨(X.stack=X.env::X.outer∧X.env.frame=some X.env.locals)
 Wt:∀b∈X.ex,b≠X.env.locals∧∀x c,X.env.cells.lookup x=some c→c≠b
 bs:∀b o,X.base.get? b=some o→X.de.heap.get? b=some o∧X.eL b=none
 Hi:X.base.objs.size≤X.de.heap.objs.size
 Hj:∀b o,X.base.get? b=some o→b∉X.ex
 Ky:∀b∈X.ex,b∉X.fs
 uo:X.de.heap.FunFrames X.base X.outer
 Kz:∀b∈X.fs,X.eL b=none
structure Inv(X:Cx)(pins:List (Addr×Obj))(σ:List (Option V))(H:Hp)(s:Shared):Prop where
 ok:X.Ok
 os:s.os=X.de.os
 bare:AllBare s.gens
 base:Un X.fs X.ex X.eL H X.de.heap s.heap
 loc:∃m,s.heap.Ns X.env.locals m∧∀(i:Nat)(x:Str)(v:V),X.N[i]?=some x→σ[i]?=some (some v)→Ol X.env.scope x→∃u,RelV v u∧Look X.env s.heap m x u
 cell:∀x c,X.env.cells.lookup x=some c→∃v,s.heap.IsCell c v
 free:H X.env.locals=none
 oj:∀x c,X.env.cells.lookup x=some c→H c=none
 pin:∀p∈X.pn++pins,s.heap.get? p.1=some p.2∧H p.1=none∧p.1≠X.env.locals∧p.1∉X.fs∧∀v,p.2.data≠ .cell v
 bO:mH X.prog X.w H s.heap
 len:σ.length=X.N.length
section
variable{X:Cx}{pins:List (Addr×Obj)}{σ:List (Option V)}{H H':Hp}{s:Shared}{h':Heap}
theorem Cx.Ok.Oo(ok:X.Ok){b:Addr}{o:Obj}(e:X.base.get? b=some o):b∉X.fs:=fun hb=>by
 have:=(ok.uo.mem hb).1;rw[e]at this;cases this
theorem Inv.bs(I:Inv X pins σ H s):∀b o,X.base.get? b=some o→s.heap.get? b=some o∧H b=none:=fun b o e=>
 ⟨I.base.keep b o (I.ok.bs b o e).1 (I.ok.bs b o e).2 (I.ok.Oo e) (I.ok.Hj b o e),I.base.free b o (I.ok.bs b o e).1 (I.ok.bs b o e).2 (I.ok.Hj b o e)⟩
theorem Inv.bk(I:Inv X pins σ H s):∀b o,X.base.get? b=some o→s.heap.get? b=some o:=fun b o e=>(I.bs b o e).1
theorem Inv.mod(I:Inv X pins σ H s):Mod X.K X.mg X.base:=I.ok.mod
theorem Inv.qF(I:Inv X pins σ H s):X.K.In s.heap:=I.ok.mod.JW.keeps I.bk
theorem Inv.lt(I:Inv X pins σ H s):X.env.locals<s.heap.objs.size:=let ⟨_,hn,_⟩:=I.loc;hn.lt
theorem Inv.sz(I:Inv X pins σ H s):X.de.heap.objs.size≤s.heap.objs.size:=Nat.le_trans I.ok.above (Nat.le_of_lt I.lt)
theorem Inv.Oq(I:Inv X pins σ H s){a:Addr}(h:s.heap.objs.size≤a):a∉X.fs:=fun hb=>by
 obtain⟨_,o,ho,_⟩:=I.ok.uo.mem hb;exact absurd (Nat.lt_of_lt_of_le (Heap.lt_size ho) (Nat.le_trans I.sz h)) (Nat.lt_irrefl _)
theorem Inv.Hk(I:Inv X pins σ H s):∀x c,X.env.cells.lookup x=some c→c≠X.env.locals:=fun x c e z=>by
 obtain⟨v,o,ho,hd⟩:=I.cell x c e;obtain⟨m,⟨o',es,ep,Hl,JX,_⟩,_⟩:=I.loc;rw[z,Hl]at ho;cases ho;rw[JX]at hd;cases hd
theorem Inv.uo(I:Inv X pins σ H s):s.heap.FunFrames X.base X.outer:=by
 have all:∀(l:List Env),(∀b∈pB l,b∈X.fs)→X.de.heap.FunFrames X.base l→s.heap.FunFrames X.base l:=by
  intro l
  induction l with
  |nil=>intro _ _;trivial
  |cons env r ih=>
   intro hs hl;obtain⟨hk,⟨L,o,hf,hn,ho,hd⟩,hr⟩:=hl;have hL:L∈X.fs:=hs L (by unfold pB;rw[List.filterMap_cons,hf];exact List.mem_cons_self);obtain⟨sl,e⟩:=I.base.slot L o ho (I.ok.Kz L hL) hL fun z=>I.ok.Ky L z hL
   exact⟨hk,⟨L,_,hf,hn,e,hd⟩,ih (fun b hb=>hs b (by unfold pB;rw[List.filterMap_cons,hf];exact List.mem_cons_of_mem _ hb)) hr⟩
 exact all X.outer (fun _ hb=>hb) I.ok.uo
theorem Inv.stack(I:Inv X pins σ H s):s.heap.FunFrames X.base X.stack:=by
 rcases I.ok.Q5 with e|⟨e,hf⟩
 ·rw[e];exact I.uo
 ·rw[e];obtain⟨m,hn,_⟩:=I.loc;refine .cons (by rw[I.ok.kind];decide) hf hn ?_ I.uo;exact Heap.get?_none_of_le (Nat.le_trans I.ok.Hi I.ok.above)
theorem Inv.sZ(I:Inv X pins σ H s):∀b∈pB X.stack,b∈X.env.locals::X.fs:=fun b hb=>by
 rcases I.ok.Q5 with e|⟨e,hf⟩
 ·rw[e]at hb;exact List.mem_cons_of_mem _ hb
 ·rw[e]at hb;unfold pB at hb;rw[List.filterMap_cons,hf]at hb;exact hb
theorem Inv.vB(I:Inv X pins σ H s):∀b∈pB X.stack,H b=none:=fun b hb=>by
 rcases List.mem_cons.mp (I.sZ b hb)with e|hb
 ·rw[e];exact I.free
 ·obtain⟨_,o,ho,_⟩:=I.ok.uo.mem hb;exact I.base.free b o ho (I.ok.Kz b hb) fun z=>I.ok.Ky b z hb
theorem Inv.step{g':Array GenState}{t':Nat}{d':Drawn}{ch:List Addr}(I:Inv X pins σ H s)
  (DZ:∀b∈ch,(b∈X.ex∨X.de.heap.objs.size≤b)∧b≠X.env.locals∧(∀x c,X.env.cells.lookup x=some c→c≠b)∧∀p∈X.pn++pins,p.1≠b)
  (keep:∀b o,b≠X.env.locals→b∉X.fs→b∉ch→s.heap.get? b=some o→H b=none→h'.get? b=some o)
  (slot:∀b o,b≠X.env.locals→b∈X.fs→b∉ch→s.heap.get? b=some o→H b=none→∃sl,h'.get? b=some {o with slots:=sl}) (free:∀b o,b∉ch→s.heap.get? b=some o→H b=none→H' b=none)
  (there:∀b o,b∉ch→s.heap.get? b=some o→∃o',h'.get? b=some o')
  (cq:∀b xs,H b=some (.tup xs)→H' b=some (.tup xs)) (pD:∀b o u,H b=some (.sN o u)→H' b=some (.sN o u)) (sj:∀b ps,H b=some (.Ef ps)→∃more,H' b=some (.Ef (ps++more)))
  (ns:∀m,s.heap.Ns X.env.locals m→h'.Ns X.env.locals m) (bO:mH X.prog X.w H' h') (hg:AllBare g'):
  Inv X pins σ H' {s with heap:=h',gens:=g',drawn:=d',toks:=t'}:=by
 have Q6:∀b o,X.de.heap.get? b=some o→b≠X.env.locals:=fun b o e=>Nat.ne_of_lt (Nat.lt_of_lt_of_le (Heap.lt_size e) I.ok.above)
 have M6:∀b o,X.de.heap.get? b=some o→b∉X.ex→b∉ch:=fun b o e hx hb=>by
  rcases(DZ b hb).1 with z|z
  ·exact hx z
  ·exact absurd (Nat.lt_of_lt_of_le (Heap.lt_size e) z) (Nat.lt_irrefl _)
 have cellK:∀x c,X.env.cells.lookup x=some c→∀v,s.heap.IsCell c v→h'.IsCell c v:=fun x c e v ⟨o,ho,hd⟩=>by
  have KA:c∉ch:=fun z=>(DZ c z).2.2.1 x c e rfl
  by_cases hc:c∈X.fs
  ·obtain⟨sl,q⟩:=slot c o (I.Hk x c e) hc KA ho (I.oj x c e);exact⟨_,q,hd⟩
  ·exact⟨o,keep c o (I.Hk x c e) hc KA ho (I.oj x c e),hd⟩
 refine⟨I.ok,I.os,hg,⟨fun b o e n hb hx=>?_,fun b o e n hb hx=>?_,fun b o e n hx=>?_,fun b o e hx=>?_,fun b xs e=>cq b xs (I.base.cq b xs e),fun b o xs e=>pD b o xs (I.base.pD b o xs e),fun b ps e=>?_⟩,?_,fun x c e=>?_,?_,fun x c e=>?_,fun p hp=>?_,bO,I.len⟩
 ·exact keep b o (Q6 b o e) hb (M6 b o e hx) (I.base.keep b o e n hb hx) (I.base.free b o e n hx)
 ·obtain⟨sl,e1⟩:=I.base.slot b o e n hb hx;obtain⟨KC,e2⟩:=slot b _ (Q6 b o e) hb (M6 b o e hx) e1 (I.base.free b o e n hx);exact⟨KC,e2⟩
 ·obtain⟨o',e1⟩:=I.base.there b o e hx;exact free b o' (M6 b o e hx) e1 (I.base.free b o e n hx)
 ·obtain⟨o',e1⟩:=I.base.there b o e hx;exact there b o' (M6 b o e hx) e1
 ·obtain⟨m1,e1⟩:=I.base.sj b ps e;obtain⟨m2,e2⟩:=sj b _ e1;exact⟨m1++m2,by rw[e2,Array.append_assoc]⟩
 ·obtain⟨m,hn,hl⟩:=I.loc;refine⟨m,ns m hn,fun i x v e1 e2 e3=>?_⟩;obtain⟨u,r,l⟩:=hl i x v e1 e2 e3;refine⟨u,r,?_⟩;rcases l with l|⟨k,c,e,z⟩
  ·exact .inl l
  ·exact .inr ⟨k,c,e,cellK x c e _ z⟩
 ·obtain⟨v,z⟩:=I.cell x c e;exact⟨v,cellK x c e v z⟩
 ·obtain⟨m,⟨o,_,_,ho,_⟩,_⟩:=I.loc;exact free _ o (fun z=>(DZ _ z).2.1 rfl) ho I.free
 ·obtain⟨v,o,ho,hd⟩:=I.cell x c e;exact free c o (fun z=>(DZ c z).2.2.1 x c e rfl) ho (I.oj x c e)
 ·obtain⟨e,n,ne,nf,d⟩:=I.pin p hp;have KA:p.1∉ch:=fun z=>(DZ p.1 z).2.2.2 p hp rfl
  exact⟨keep p.1 p.2 ne nf KA e n,free p.1 p.2 KA e n,ne,nf,d⟩
theorem Inv.un{t':Nat}(I:Inv X pins σ H s)(u:Un X.fs [] H H' s.heap h')(bO:mH X.prog X.w H' h'):Inv X pins σ H' {s with heap:=h',toks:=t'}:=by
 obtain⟨m,⟨o,es,ep,ho,r⟩,_⟩:=id I.loc;obtain⟨sl,hL⟩:=u.any ho I.free Xy;exact I.step (g':=s.gens) (d':=s.drawn) (ch:=[]) (fun _ z=>nomatch z) (fun b o _ hb _ e n=>u.keep b o e n hb Xy) (fun b o _ hb _ e n=>u.slot b o e n hb Xy) (fun b o _ e n=>u.free b o e n Xy) (fun b o _ e=>u.there b o e Xy) u.cq u.pD u.sj (fun m' hm=>by
  obtain⟨o',M7,M8,Hl,r'⟩:=hm;rw[ho]at Hl;cases Hl;exact⟨_,M7,M8,hL,r'⟩) bO I.bare
theorem Inv.call{g':Array GenState}{t':Nat}{d':Drawn}{ch:List Addr}(I:Inv X pins σ H s)(u:Un (pB X.stack) ch H H' s.heap h')(bO:mH X.prog X.w H' h')(hg:AllBare g')
  (DZ:∀b∈ch,(b∈X.ex∨X.de.heap.objs.size≤b)∧b≠X.env.locals∧(∀x c,X.env.cells.lookup x=some c→c≠b)∧∀p∈X.pn++pins,p.1≠b):
  Inv X pins σ H' {s with heap:=h',gens:=g',drawn:=d',toks:=t'}:=by
 obtain⟨m,⟨o,es,ep,ho,r⟩,_⟩:=id I.loc;obtain⟨sl,hL⟩:=u.any ho I.free fun z=>(DZ _ z).2.1 rfl
 exact I.step (ch:=ch) DZ (fun b o hL hb hc e n=>u.keep b o e n (fun z=>(List.mem_cons.mp (I.sZ b z)).elim hL hb) hc) (fun b o _ _ hc e n=>u.any e n hc) (fun b o hc e n=>u.free b o e n hc) (fun b o hc e=>u.there b o e hc) u.cq u.pD u.sj (fun m' hm=>by
  obtain⟨o',M7,M8,Hl,r'⟩:=hm;rw[ho]at Hl;cases Hl;exact⟨_,M7,M8,hL,r'⟩) bO hg
theorem Inv.turned{t':Nat}{it:Addr}(I:Inv X pins σ H s)(k:∀b o,b≠it→s.heap.get? b=some o→h'.get? b=some o)(hn:H it=none)(hL:it≠X.env.locals)
  (h1:it∈X.ex∨X.de.heap.objs.size≤it) (h2:∀x c,X.env.cells.lookup x=some c→c≠it) (h3:∀p∈X.pn++pins,p.1≠it):Inv X pins σ H {s with heap:=h',toks:=t'}:=by
 have FW:∀b u,H b=some u→b≠it:=fun b u e z=>by rw[z,hn]at e;cases e
 refine I.step (g':=s.gens) (d':=s.drawn) (ch:=[it]) (fun b hb=>?_) (fun b o _ _ hc e _=>k b o (fun z=>hc (by simp[z])) e) (fun b o _ _ hc e _=>⟨o.slots,k b o (fun z=>hc (by simp[z])) e⟩) (fun _ _ _ _ n=>n)
  (fun b o hc e=>⟨o,k b o (fun z=>hc (by simp[z])) e⟩) (fun _ _ e=>e) (fun _ _ _ e=>e) (fun b ps e=>⟨#[],by rw[e];simp⟩) (fun m hm=>?_) (fun b u e=>?_) I.bare
 ·have e:b=it:=by simpa using hb
  subst e;exact⟨h1,hL,h2,h3⟩
 ·obtain⟨o,es,ep,ho,r⟩:=hm;exact⟨o,es,ep,k _ o (Ne.symm hL) ho,r⟩
 ·refine(I.bO b u e).vz (fun c v hc q=>k c v ?_ q) (fun _ q=>q) fun _ _ q=>q
  rcases hc with z|z
  ·rw[z];exact FW b u e
  ·exact FW c _ z
theorem Inv.tok(I:Inv X pins σ H s)(t:Nat):Inv X pins σ H {s with toks:=t}:=I.un (h':=s.heap) (t':=t) Un.refl I.bO
theorem Inv.kept{t':Nat}(I:Inv X pins σ H s)(k:∀b u,s.heap.get? b=some u→h'.get? b=some u):Inv X pins σ H {s with heap:=h',toks:=t'}:=I.un (Un.kept k) (I.bO.kept k)
theorem Inv.laid{a:Addr}{o:HO}{t':Nat}(I:Inv X pins σ H s)(k:∀b u,s.heap.get? b=some u→h'.get? b=some u)(hp:s.heap.objs.size≤a)(new:cJ X.prog X.w (upd H a o) h' a o):
  Inv X pins σ (upd H a o) {s with heap:=h',toks:=t'}:=I.un (Un.laid k hp (I.bO.fresh hp)) (I.bO.laid k hp new)
theorem Inv.write{x e:Addr}{o:HO}{t':Nat}(I:Inv X pins σ H s)(mu:Kv (H x))(he:e=x∨H e=some (.own x))(k:∀b u,b≠e→s.heap.get? b=some u→h'.get? b=some u)(JV:∃u,h'.get? e=some u)
  (new:cJ X.prog X.w (upd H x o) h' x o):Inv X pins σ (upd H x o) {s with heap:=h',toks:=t'}:=I.un (Un.write mu he k JV) (I.bO.write mu he k JV new)
theorem Inv.Yi{FX:List (Addr×Obj)}(I:Inv X pins σ H s)(h:∀p∈FX,s.heap.get? p.1=some p.2∧H p.1=none∧p.1≠X.env.locals∧p.1∉X.fs∧∀v,p.2.data≠ .cell v):Inv X FX σ H s:=
 ⟨I.ok,I.os,I.bare,I.base,I.loc,I.cell,I.free,I.oj,fun p hp=>(List.mem_append.mp hp).elim (fun z=>I.pin p (List.mem_append_left _ z)) (h p),I.bO,I.len⟩
theorem w8{N:List Str}(hN:N.Nodup){i j:Nat}{x:Str}(a:N[i]?=some x)(b:N[j]?=some x):i=j:=by
 obtain⟨h1,e1⟩:=Xc a;obtain⟨h2,e2⟩:=Xc b;exact(List.getElem_inj hN).mp (e1.trans e2.symm)
theorem uQ{M:Model}{A:Around}{E:Value→Shared→Prop}{i:Nat}{x:Str}{v:V}{u:Value}{Q:Unit→Shared→Prop}(I:Inv X pins σ H s)(hN:X.N.Nodup)(hi:X.N[i]?=some x)(hx:Loc X.env.scope x)(r:RelV v u)
  (h:∀s',Inv X pins (σ.set i (some v)) H s'→(∃a,Heap.SameBut a s.heap s'.heap∧(a=X.env.locals∨X.env.cells.lookup x=some a))→Q () s') (hf:X.fn x=true∨X.env.scope.names.lookup x=some .local:=by first|exact .inl rfl|exact .inr rfl|assumption):wpAny M A (storeName X.env x u) Q E s:=by
 obtain⟨m,hn,hl⟩:=id I.loc;have Ot:(X.env.scope.kind== .class||(X.env.scope.kind== .module&&X.env.locals !=X.env.globals))=false:=by rw[I.ok.kind];rfl
 have KD:i<σ.length:=by rw[I.len];exact(Xc hi).1
 have Hk:=I.Hk;have tracked:∀{a:Addr}{h':Heap},(∃o,s.heap.get? a=some o∧H a=none)→Heap.SameBut a s.heap h'→mH X.prog X.w H h':=fun{a h'} ha hs b ob e=>by
  obtain⟨_,_,YF⟩:=ha;refine(I.bO b ob e).vz (fun c w' hc q=>(hs.2 c ?_).trans q) (fun _ q=>q) fun _ _ q=>q
  rintro rfl;rcases hc with rfl|hc
  ·rw[YF]at e;cases e
  ·rw[YF]at hc;cases hc
 rcases hx with hk|hk
 ·refine wpAny_storeName_local hk hn (fun h' BJ hs=>?_) Ot;obtain⟨oL,_,_,FY,_⟩:=id hn;refine h _ ⟨I.ok,I.os,I.bare,⟨fun b o e n hb hx=>?_,fun b o e n hb hx=>?_,I.base.free,fun b o e hx=>?_,I.base.cq,I.base.pD,I.base.sj⟩,⟨_,BJ,fun j y v' e1 e2 e3=>?_⟩,fun y c e=>?_,I.free,I.oj,fun p hp=>?_,tracked ⟨oL,FY,I.free⟩ hs,by simpa using I.len⟩ ⟨_,hs, .inl rfl⟩
  ·exact(hs.2 b (Nat.ne_of_lt (Nat.lt_of_lt_of_le (Heap.lt_size e) I.ok.above))).trans (I.base.keep b o e n hb hx)
  ·obtain⟨sl,e1⟩:=I.base.slot b o e n hb hx;exact⟨sl,(hs.2 b (Nat.ne_of_lt (Nat.lt_of_lt_of_le (Heap.lt_size e) I.ok.above))).trans e1⟩
  ·obtain⟨o',e1⟩:=I.base.there b o e hx;exact⟨o',(hs.2 b (Nat.ne_of_lt (Nat.lt_of_lt_of_le (Heap.lt_size e) I.ok.above))).trans e1⟩
  ·by_cases hj:j=i
   ·subst hj;rw[hi]at e1;cases e1;rw[List.getElem?_set_self KD]at e2;cases e2;exact⟨u,r, .inl ⟨hk,XE⟩⟩
   ·rw[List.getElem?_set_ne (Ne.symm hj)]at e2;obtain⟨u',r',q⟩:=hl j y v' e1 e2 e3;refine⟨u',r',?_⟩;rcases q with⟨k,e⟩|⟨k,c,e,z⟩
    ·refine .inl ⟨k,?_⟩;have:y≠x:=fun e=>hj (w8 hN e1 (e▸hi))
     simp[this,e]
    ·exact .inr ⟨k,c,e,z.sameBut hs (Hk y c e)⟩
  ·obtain⟨w',z⟩:=I.cell y c e;exact⟨w',z.sameBut hs (Hk y c e)⟩
  ·obtain⟨e,n,ne,nf,d⟩:=I.pin p hp;exact⟨(hs.2 p.1 ne).trans e,n,ne,nf,d⟩
 ·have KG:X.fn x=true:=by
   rcases hf with z|z
   ·exact z
   ·rw[z]at hk;cases hk
  obtain⟨c,hc⟩:=I.ok.has x (.inl hk);obtain⟨w',z⟩:=I.cell x c hc;refine wpAny_storeName_cell I.ok.kind hk hc z (fun h' Hm hs=>?_);obtain⟨oc,Q7,Ou⟩:=id z;refine h {s with heap:=h'} ⟨I.ok,I.os,I.bare,⟨fun b o e n hb hx=>?_,fun b o e n hb hx=>?_,I.base.free,fun b o e hx=>?_,I.base.cq,I.base.pD,I.base.sj⟩,⟨m,hn.sameBut hs (Ne.symm (Hk x c hc)),fun j y v' e1 e2 e3=>?_⟩,fun y c' e=>?_,I.free,I.oj,fun p hp=>?_,tracked ⟨oc,Q7,I.oj x c hc⟩ hs,by simpa using I.len⟩ ⟨c,hs, .inr hc⟩
  ·exact(hs.2 b (Nat.ne_of_lt (Nat.lt_of_lt_of_le (Heap.lt_size e) (I.ok.Om x c KG hc)))).trans (I.base.keep b o e n hb hx)
  ·obtain⟨sl,e1⟩:=I.base.slot b o e n hb hx;exact⟨sl,(hs.2 b (Nat.ne_of_lt (Nat.lt_of_lt_of_le (Heap.lt_size e) (I.ok.Om x c KG hc)))).trans e1⟩
  ·obtain⟨o',e1⟩:=I.base.there b o e hx;exact⟨o',(hs.2 b (Nat.ne_of_lt (Nat.lt_of_lt_of_le (Heap.lt_size e) (I.ok.Om x c KG hc)))).trans e1⟩
  ·by_cases hj:j=i
   ·subst hj;rw[hi]at e1;cases e1;rw[List.getElem?_set_self KD]at e2;cases e2;exact⟨u,r, .inr ⟨.inl hk,c,hc,Hm⟩⟩
   ·rw[List.getElem?_set_ne (Ne.symm hj)]at e2;obtain⟨u',r',q⟩:=hl j y v' e1 e2 e3;refine⟨u',r',?_⟩;rcases q with q|⟨k,c',e,z'⟩
    ·exact .inl q
    ·refine .inr ⟨k,c',e,z'.sameBut hs ?_⟩;rintro rfl;exact hj (w8 hN e1 (I.ok.inj _ _ _ e hc▸hi))
  ·by_cases Q8:c'=c
   ·subst Q8;exact⟨_,Hm⟩
   ·obtain⟨w2,z2⟩:=I.cell y c' e;exact⟨w2,z2.sameBut hs Q8⟩
  ·obtain⟨e,n,ne,nf,d⟩:=I.pin p hp;refine⟨(hs.2 p.1 ?_).trans e,n,ne,nf,d⟩;intro q;rw[q,Q7]at e;have q':oc=p.2:=Xs e;exact d w' (by rw[←q'];exact Ou)
theorem w9{M:Model}{A:Around}{E:Value→Shared→Prop}{i:Nat}{x:Str}{v:V}{u:Value}{Q:Unit→Shared→Prop}(I:Inv X pins σ H s)(hN:X.N.Nodup)(hi:X.N[i]?=some x)(hx:Loc X.env.scope x)(r:RelV v u)
  (h:∀s',Inv X pins (σ.set i (some v)) H s'→Q () s') (hf:X.fn x=true∨X.env.scope.names.lookup x=some .local:=by first|exact .inl rfl|exact .inr rfl|assumption):wpAny M A (storeName X.env x u) Q E s:=
 uQ I hN hi hx r (fun s' I' _=>h s' I') hf
theorem Inv.KH{s':Shared}{ch:List Addr}(I:Inv X pins σ H s)(ho:s'.os=s.os)(u:Un (pB X.stack) ch H H' s.heap s'.heap)(bO:mH X.prog X.w H' s'.heap)(hg:AllBare s'.gens)
  (DZ:∀b∈ch,(b∈X.ex∨X.de.heap.objs.size≤b)∧b≠X.env.locals∧(∀x c,X.env.cells.lookup x=some c→c≠b)∧∀p∈X.pn++pins,p.1≠b):Inv X pins σ H' s':=by
 obtain⟨h',g',d',t',o'⟩:=s';have e:o'=s.os:=ho;subst e;exact I.call (g':=g') (t':=t') (d':=d') u bO hg DZ
end
abbrev XK:=Value→Option Addr→Hp→Prop
abbrev St:=List (Option V)
abbrev VK:=V→Hp→Prop
abbrev TE:=St→Hp→VK→Prop
abbrev TT:=St→Hp→(Bool→Hp→Prop)→Prop
abbrev TA:=St→Hp→(List V→Hp→Prop)→Prop
structure Ends where
 nx:St→Hp→Prop
 rt:VK
 bk:St→Hp→Prop:=fun _ _=>False
 ct:St→Hp→Prop:=fun _ _=>False
abbrev TS:=Ends→St→Hp→Prop
def EP(X:Cx)(pins:List (Addr×Obj))(σ:St)(Q:VK)(u:Value)(s':Shared):Prop:=∃v H',Inv X pins σ H' s'∧RelV v u∧Q v H'
def TP(X:Cx)(pins:List (Addr×Obj))(σ:St)(Q:Bool→Hp→Prop)(b:Bool)(s':Shared):Prop:=∃H',Inv X pins σ H' s'∧Q b H'
def AP(X:Cx)(pins:List (Addr×Obj))(σ:St)(Q:List V→Hp→Prop)(us:List Value)(s':Shared):Prop:=∃vs H',Inv X pins σ H' s'∧Vals vs us∧Q vs H'
def SP(X:Cx)(pins:List (Addr×Obj))(D:Ends)(f:Flow)(s':Shared):Prop:=
 match f with
 | .next=>∃bF H',Inv X pins bF H' s'∧D.nx bF H'
 | .brk=>∃bF H',Inv X pins bF H' s'∧D.bk bF H'
 | .cont=>∃bF H',Inv X pins bF H' s'∧D.ct bF H'
 | .ret u=>∃v bF H',Inv X pins bF H' s'∧RelV v u∧D.rt v H'
def PE(X:Cx)(e:Expr)(t:TE):Prop:=
 ∀(pins:List (Addr×Obj))(s:Shared)(σ:St)(H:Hp)(Q:VK),Inv X pins σ H s→t σ H Q→wpAny Xv X.A (eval e X.env) (EP X pins σ Q) X.xe s
def PT(X:Cx)(e:Expr)(t:TT):Prop:=
 ∀(pins:List (Addr×Obj))(s:Shared)(σ:St)(H:Hp)(Q:Bool→Hp→Prop),Inv X pins σ H s→t σ H Q→wpAny Xv X.A (isTrue e X.env (eval e X.env)) (TP X pins σ Q) X.xe s
def PW(X:Cx)(e:Expr)(t:TT):Prop:=
 ∀(whole:Sem Value)(pins:List (Addr×Obj))(s:Shared)(σ:St)(H:Hp)(Q:Bool→Hp→Prop),Inv X pins σ H s→t σ H Q→wpAny Xv X.A (isTrue e X.env whole) (TP X pins σ Q) X.xe s
theorem PW.pt{X:Cx}{e:Expr}{t:TT}(h:PW X e t):PT X e t:=h _
def PA(X:Cx)(es:List Expr)(t:TA):Prop:=
 ∀(pos:Pos)(pins:List (Addr×Obj))(s:Shared)(σ:St)(H:Hp)(Q:List V→Hp→Prop),Inv X pins σ H s→t σ H Q→wpAny Xv X.A (spliced (backTo pos (starEach es X.env))) (AP X pins σ Q) X.xe s
def PS(X:Cx)(st:Stmt)(t:TS):Prop:=
 ∀(pins:List (Addr×Obj))(s:Shared)(σ:St)(H:Hp)(D:Ends),Inv X pins σ H s→t D σ H→wpAny Xv X.A (exec st X.env) (SP X pins D) X.xe s
def Az(X:Cx)(st:List Stmt)(t:TS):Prop:=
 ∀(pins:List (Addr×Obj))(s:Shared)(σ:St)(H:Hp)(D:Ends),Inv X pins σ H s→t D σ H→wpAny Xv X.A (execs st X.env) (SP X pins D) X.xe s
theorem cy{α:Type}{t:Sem α}{Q Q':α→Shared→Prop}{M:Model}{A:Around}{E:Value→Shared→Prop}{s:Shared}(h:wpAny M A t Q E s)(hQ:∀a s,Q a s→Q' a s):wpAny M A t Q' E s:=wpAny_mono h hQ fun _ _ x=>x
section
variable{X:Cx}
theorem bin{a b:Expr}{ta tb:TE}(ha:PE X a ta)(hb:PE X b tb){pins:List (Addr×Obj)}{s:Shared}{σ:St}{H:Hp}{R:V→V→Hp→Prop}(I:Inv X pins σ H s)(h:ta σ H fun x H1=>tb σ H1 fun y H2=>R x y H2)
  {α:Type} {Q:α→Shared→Prop} {f:Value→Value→Sem α}
  (hf:∀v u s2 x y H2,Inv X pins σ H2 s2→RelV x v→RelV y u→R x y H2→wpAny Xv X.A (f v u) Q X.xe s2):
  wpAny Xv X.A (eval a X.env) (fun v bW=>wpAny Xv X.A (eval b X.env) (fun u qG=>wpAny Xv X.A (f v u) Q X.xe qG) X.xe bW) X.xe s:=by
 refine cy (ha pins s σ H _ I h) fun v s1 ⟨x,H1,I1,r1,q1⟩=>?_
 refine cy (hb pins s1 σ H1 _ I1 q1) fun u s2 ⟨y,H2,I2,r2,q2⟩=>?_
 exact hf v u s2 x y H2 I2 r1 r2 q2
inductive Hn(i:Nat)(σ:St)(H:Hp)(Q:VK):Prop
 |mk (v:_) (_:σ[i]?=some (some v)) (_:Q v H):Hn i σ H Q
def tC(v:V):TE:=fun _ H Q=>Q v H
theorem Ho{i:Nat}{x:Str}{pos:Pos}(hN:X.N[i]?=some x)(hv:Ol X.env.scope x)(hd:(x==("__debug__":Str))=false:=by decide)(AA:(x==("__classdict__":Str))=false:=by decide):PE X (.Name x pos) (Hn i):=by
 intro pins s σ H Q I h;obtain⟨v,e,h⟩:=h;obtain⟨m,hn,hl⟩:=I.loc;obtain⟨u,r,l⟩:=hl i x v hN e hv;have fin:EP X pins σ Q u s:=⟨v,H,I,r,h⟩
 rcases l with⟨hk,hm⟩|⟨hk,c,hc,FZ⟩
 ·exact wpAny_Name (wpAny_loadName_local I.ok.kind hk hn hm fin) hd
 ·rcases hk with hk|hk
  ·exact wpAny_Name (wpAny_loadName_cell I.ok.kind hk hc FZ fin) hd
  ·exact wpAny_Name (wpAny_loadName_free I.ok.kind hk hc FZ fin AA) hd
theorem aj{i j pos}:PE X (.Constant (.int i) j pos) (tC (.int i)):=fun _ _ _ H _ I h=>wpAny_Constant_int ⟨.int i,H,I.tok _,⟨_,rfl⟩,h⟩
theorem ja{b j pos}:PE X (.Constant (.bool b) j pos) (tC (.bl b)):=fun _ _ _ H _ I h=>Constant_bool ⟨.bl b,H,I,rfl,h⟩
theorem lA{j pos}:PE X (.Constant .none j pos) (tC .cI):=fun _ _ _ H _ I h=>Constant_none ⟨.cI,H,I,rfl,h⟩
theorem dJ{x j pos}:PE X (.Constant (.str x) j pos) (tC (.str x)):=fun _ _ _ H _ I h=>Calls.Constant_str ⟨.str x,H,I.tok _,⟨_,rfl⟩,h⟩
def Gl(X:Cx)(x:Str):Prop:=X.env.kindOf x=some .globalImplicit
theorem pE{E:Value→Shared→Prop}{pins:List (Addr×Obj)}{s:Shared}{σ:St}{H:Hp}{x:Str}{u:Value}{pos:Pos}{Q:Value→Shared→Prop}(I:Inv X pins σ H s)(hg:Gl X x)(hm:X.mg x=some u)(h:Q u s)
  (hd:(x==("__debug__":Str))=false:=by decide):wpAny Xv X.A (eval (.Name x pos) X.env) Q E s:=
 Calls.Name_function_global I.ok.kind hg (Calls.loadGlobal_global (by rw[I.ok.glob];exact I.mod.glob.keeps I.bk) hm h) hd
theorem mI{E:Value→Shared→Prop}{pins:List (Addr×Obj)}{s:Shared}{σ:St}{H:Hp}{x:Str}{u:Value}{pos:Pos}{Q:Value→Shared→Prop}(I:Inv X pins σ H s)(hg:Gl X x)(hm:X.mg x=none)(hv:bootBuiltins x=some u)(h:Q u s)
  (hn:x≠"__name__":=by decide) (hd:(x==("__debug__":Str))=false:=by decide):wpAny Xv X.A (eval (.Name x pos) X.env) Q E s:=by
 obtain⟨mb,h1,h2⟩:=I.mod.blt;exact Calls.Name_function_global I.ok.kind hg (Calls.loadGlobal_builtin (by rw[I.ok.glob];exact I.mod.glob.keeps I.bk) hm (by rw[I.ok.blt];exact h1.keeps I.bk) ((h2 x hn).trans hv) h) hd
theorem ZI{x:Str}{v:V}{u:Value}{pos:Pos}(hg:Gl X x)(hm:X.mg x=some u)(r:RelV v u)(hd:(x==("__debug__":Str))=false:=by decide):PE X (.Name x pos) (tC v):=
 fun _ _ _ H _ I h=>pE I hg hm ⟨v,H,I,r,h⟩ hd
theorem pF{x:Str}{v:V}{u:Value}{pos:Pos}(hg:Gl X x)(hm:X.mg x=none)(hv:bootBuiltins x=some u)(r:RelV v u)(hn:x≠"__name__":=by decide)(hd:(x==("__debug__":Str))=false:=by decide):PE X (.Name x pos) (tC v):=
 fun _ _ _ H _ I h=>mI I hg hm hv ⟨v,H,I,r,h⟩ hn hd
variable{a b:Expr}{ta tb:TE}{pos:Pos}
def PC(X:Cx)(op:CmpOp)(a b:Expr)(t:TE):Prop:=
 ∀(pins:List (Addr×Obj))(s:Shared)(σ:St)(H:Hp)(Q:VK),Inv X pins σ H s→t σ H Q→
  wpAny Xv X.A (eval a X.env) (fun v bW=>wpAny Xv X.A (eval b X.env) (fun u qG=>wpAny Xv X.A (compareOp op v u) (EP X pins σ Q) X.xe qG) X.xe bW) X.xe s
theorem bq(b:Expr){op:CmpOp}(h:op≠ .In)(h2:op≠ .NotIn):behindInMarks op b=false:=by
 have e1:(op==CmpOp.In)=false:=by cases op<;>first|rfl|exact absurd rfl h
 have e2:(op==CmpOp.NotIn)=false:=by cases op<;>first|rfl|exact absurd rfl h2
 cases b<;>simp[behindInMarks,e1,e2]
def Ov(ta:TE):TE:=fun σ H Q=>ta σ H fun x H1=>Q (.bl (decide (x= .cI))) H1
def KI(ta:TE):TE:=fun σ H Q=>ta σ H fun x H1=>Q (.bl (!decide (x= .cI))) H1
theorem RelV.w_{x:V}{v:Value}(r:RelV x v):(v==Value.none)=decide (x= .cI):=by
 cases x with
 |cI=>cases r;rfl
 |bl _=>cases r;rfl
 |int _=>obtain⟨t,rfl⟩:=r;rfl
 |str _=>obtain⟨t,rfl⟩:=r;rfl
 |Ax _=>obtain⟨t,rfl⟩:=r;rfl
 |FV _=>obtain⟨t,rfl⟩:=r;rfl
 |ref _=>cases r;rfl
 |ty _=>cases r;rfl
theorem qH{j pos'}(ha:PE X a ta):PC X .Is a (.Constant .none j pos') (Ov ta):=by
 intro pins s σ H Q I h;refine cy (ha pins s σ H _ I h) fun v s1 ⟨x,H1,I1,r1,q1⟩=>?_
 exact Constant_none (is_none_gen ⟨.bl _,H1,I1,by rw[r1.w_];rfl,q1⟩)
theorem pG{j pos'}(ha:PE X a ta):PC X .IsNot a (.Constant .none j pos') (KI ta):=by
 intro pins s σ H Q I h;refine cy (ha pins s σ H _ I h) fun v s1 ⟨x,H1,I1,r1,q1⟩=>?_
 exact Constant_none (isnot_none_gen ⟨.bl _,H1,I1,by rw[r1.w_];rfl,q1⟩)
inductive KJ(x:V)(H:Hp)(Q:Bool→Hp→Prop):Prop
 |mk (c:Bool) (_:x= .bl c) (_:Q c H):KJ x H Q
def tB(t:TE):TT:=fun σ H Q=>t σ H fun x H1=>KJ x H1 Q
theorem Y_{op:CmpOp}{t:TE}(h:PC X op a b t)(h1:behindInMarks op b=false:=by first|exact bq _ (XC) (XC)|rfl):PE X (.Compare a [op] [b] pos) t:=fun pins s σ H Q I hw=>wpAny_Compare1 (h pins s σ H Q I hw) h1
theorem fA{op:CmpOp}{t:TE}(h:PC X op a b t)(h1:behindInMarks op b=false:=by first|exact bq _ (XC) (XC)|rfl):PT X (.Compare a [op] [b] pos) (tB t):=by
 intro pins s σ H Q I hw;refine wpAny_isTrue_Compare1 (cy (h pins s σ H _ I hw) fun v s1 h1=>cy h1 fun u s2 h2=>cy h2 fun c s3 ⟨x,H1,I1,r1,q1⟩=>?_) h1;obtain⟨d,rfl,q⟩:=q1;cases r1;exact wpAny_truthy_bool ⟨H1,I1,q⟩
theorem eM{e:Expr}{t:TE}(h:PE X e t)(he:∀whole,isTrue e X.env whole=(do let v←whole;standAt e.pos;holding [v] (truthy v)):=by intro _;rfl):PT X e (tB t):=by
 intro pins s σ H Q I hw;refine isTrue_plain (cy (h pins s σ H _ I hw) fun v s1 ⟨x,H1,I1,r1,q1⟩=>?_) (he _);obtain⟨d,rfl,q⟩:=q1;cases r1;exact wpAny_truthy_bool ⟨H1,I1,q⟩
variable{tA M9:TT}{rest:List Expr}
def Ow(t u:TT):TT:=fun σ H Q=>t σ H fun c H1=>if c=true then u σ H1 Q else Q false H1
def Tg(t u:TT):TT:=fun σ H Q=>t σ H fun c H1=>if c=true then Q true H1 else u σ H1 Q
def Ox(t:TT):TT:=fun σ H Q=>t σ H fun c H1=>Q (!c) H1
theorem pw_and1(ha:PT X a tA):PW X (.BoolOp .And [a] pos) tA:=by
 intro wh pins s σ H Q I h;refine isTrue_and (cy (ha pins s σ H Q I h) fun c s1 e=>?_);cases c with
 |true=>exact isTrue_and_nil e
 |false=>exact e
theorem pw_or1(ha:PT X a tA):PW X (.BoolOp .Or [a] pos) tA:=by
 intro wh pins s σ H Q I h;refine isTrue_or (cy (ha pins s σ H Q I h) fun c s1 e=>?_);cases c with
 |false=>exact isTrue_or_nil e
 |true=>exact e
theorem pw_and(ha:PT X a tA)(hb:PW X (.BoolOp .And (b::rest) pos) M9):PW X (.BoolOp .And (a::b::rest) pos) (Ow tA M9):=by
 intro wh pins s σ H Q I h;refine isTrue_and (cy (ha pins s σ H _ I h) fun c s1 ⟨H1,I1,q1⟩=>?_);cases c with
 |true=>exact hb wh pins s1 σ H1 Q I1 q1
 |false=>exact⟨H1,I1,q1⟩
theorem pw_or(ha:PT X a tA)(hb:PW X (.BoolOp .Or (b::rest) pos) M9):PW X (.BoolOp .Or (a::b::rest) pos) (Tg tA M9):=by
 intro wh pins s σ H Q I h;refine isTrue_or (cy (ha pins s σ H _ I h) fun c s1 ⟨H1,I1,q1⟩=>?_);cases c with
 |true=>exact⟨H1,I1,q1⟩
 |false=>exact hb wh pins s1 σ H1 Q I1 q1
theorem g8(ha:PT X a tA):PT X (.UnaryOp .Not a pos) (Ox tA):=by
 intro pins s σ H Q I h;exact isTrue_not (ha pins s σ H (fun c H1=>Q (!c) H1) I h)
def KL(ta tb:TE):TE:=fun σ H Q=>ta σ H fun x H1=>∃c,x= .bl c∧if c=true then tb σ H1 Q else Q (.bl false) H1
def KN(ta:TE):TE:=fun σ H Q=>ta σ H fun x H1=>∃c,x= .bl c∧Q (.bl (!c)) H1
theorem vC{op}{t:TE}(h:PE X a t):PE X (.BoolOp op [a] pos) t:=fun pins s σ H Q I hw=>BoolOp_one (h pins s σ H Q I hw)
theorem vD(ha:PE X a ta)(hb:PE X (.BoolOp .And (b::rest) pos) tb):PE X (.BoolOp .And (a::b::rest) pos) (KL ta tb):=by
 intro pins s σ H Q I h;refine BoolOp_and (cy (ha pins s σ H _ I h) fun v s1 ⟨x,H1,I1,r1,q1⟩=>?_);obtain⟨c,rfl,q1⟩:=q1;cases r1;refine wpAny_truthy_bool ?_;cases c with
 |true=>exact hb pins s1 σ H1 Q I1 q1
 |false=>exact⟨.bl false,H1,I1,rfl,q1⟩
theorem Hq(ha:PE X a ta):PE X (.UnaryOp .Not a pos) (KN ta):=by
 intro pins s σ H Q I h;refine UnaryOp_ (cy (ha pins s σ H _ I h) fun v s1 ⟨x,H1,I1,r1,q1⟩=>?_);obtain⟨c,rfl,q1⟩:=q1;cases r1;exact not_of (wpAny_truthy_bool ⟨.bl (!c),H1,I1,rfl,q1⟩)
def Th(t:TT)(ta tb:TE):TE:=fun σ H Q=>t σ H fun c H1=>if c=true then ta σ H1 Q else tb σ H1 Q
theorem pH{c:Expr}(hc:PT X c tA)(ha:PE X a ta)(hb:PE X b tb):PE X (.IfExp c a b pos) (Th tA ta tb):=by
 intro pins s σ H Q I h;refine wpAny_IfExp (cy (hc pins s σ H _ I h) fun d s1 ⟨H1,I1,q1⟩=>?_);cases d with
 |true=>exact ha pins s1 σ H1 Q I1 q1
 |false=>exact hb pins s1 σ H1 Q I1 q1
end
def jb(K:PySem.W.Frag)(H:Hp)(a:Addr)(xs:List V):Prop:=
 Rd H a (.lst xs)∨
  ∃(o:Obj)(its:Array Value)(n:Nat),K.lookup a=some o∧o.cls= .type "list"∧o.dict=none∧o.data= .seq its n∧its.size≤sizeLine∧Vals xs its.toList
def BK(K:PySem.W.Frag)(H:Hp)(a:Addr)(xs:List V):Prop:=
 Rd H a (.tup xs)∨
  ∃(o:Obj)(its:Array Value)(n:Nat),K.lookup a=some o∧o.cls= .type "tuple"∧o.data= .seq its n∧its.size≤sizeLine∧Vals xs its.toList
def Oy:Value→Option V
 | .none=>some .cI
 | .bool b=>some (.bl b)
 | .int i _=>some (.int i)
 | .str x _=>some (.str x)
 | .bytes b _=>some (.Ax b)
 | .float b _=>some (.FV b)
 | .ref a=>some (.ref a)
 | .type n=>some (.ty n)
 | _=>none
theorem RelV.abs{x:V}{u:Value}(r:RelV x u):Oy u=some x:=by
 cases x with
 |cI=>cases r;rfl
 |bl _=>cases r;rfl
 |int _=>obtain⟨t,rfl⟩:=r;rfl
 |str _=>obtain⟨t,rfl⟩:=r;rfl
 |Ax _=>obtain⟨t,rfl⟩:=r;rfl
 |FV _=>obtain⟨t,rfl⟩:=r;rfl
 |ref _=>cases r;rfl
 |ty _=>cases r;rfl
theorem RelV.inj{x y:V}{u:Value}(r:RelV x u)(q:RelV y u):x=y:=Xs (r.abs.symm.trans q.abs)
theorem Vals.inj:∀{xs ys:List V}{us:List Value},Vals xs us→Vals ys us→xs=ys
 | _,_,_, .nil, .nil=>rfl
 | _,_,_, .cons r t, .cons r' t'=>by rw[r.inj r',Vals.inj t t']
section
variable{X:Cx}{pins:List (Addr×Obj)}{σ:St}{H:Hp}{s:Shared}{a:Addr}{xs ys:List V}
theorem jb.of{K:PySem.W.Frag}(h:H a=some (.lst xs)):jb K H a xs:= .inl (.inl h)
theorem BK.of{K:PySem.W.Frag}(h:H a=some (.tup xs)):BK K H a xs:= .inl (.inl h)
theorem Inv.list(I:Inv X pins σ H s)(h:jb X.K H a xs):∃its:List Value,Vals xs its∧PlainL s.heap a its.toArray∧xs.length≤sizeLine:=by
 rcases h with h|⟨o,its,n,hk,hc,hd,hs,hz,r⟩
 ·obtain⟨z,its,n,r,e⟩:=h.ok I.bO;exact⟨its,r,⟨_,n,e,rfl,rfl,rfl⟩,z⟩
 ·refine⟨its.toList,r,⟨o,n,I.qF a o hk,hc,hd,by simpa using hs⟩,?_⟩;have e:=r.length;simp only[Array.length_toList]at e;omega
theorem Inv.tuple(I:Inv X pins σ H s)(h:BK X.K H a xs):∃its:List Value,Vals xs its∧IsTup s.heap a its.toArray∧xs.length≤sizeLine:=by
 rcases h with h|⟨o,its,n,hk,hc,hs,hz,r⟩
 ·obtain⟨z,its,r,p⟩:=h.ok I.bO;exact⟨its,r,p,z⟩
 ·refine⟨its.toList,r,⟨o,I.qF a o hk,hc,n,by simpa using hs⟩,?_⟩;have e:=r.length;simp only[Array.length_toList]at e;omega
theorem Inv.Yu(I:Inv X pins σ H s)(h:jb X.K H a xs)(h':jb X.K H a ys):xs=ys:=by
 obtain⟨its,r,⟨o,n,e,_,_,d⟩,_⟩:=I.list h;obtain⟨its',r',⟨o',n',e',_,_,d'⟩,_⟩:=I.list h';rw[e]at e';cases e';rw[d]at d';injection d' with d1 _;have:its=its':=by simpa using congrArg Array.toList d1
 subst this;exact r.inj r'
end
abbrev Cx.Ti(X:Cx)(E:Value→Shared→Prop):Cx:={X with xe:=E}
section
variable{X:Cx}{pins:List (Addr×Obj)}{σ:St}{H:Hp}{s:Shared}{E:Value→Shared→Prop}
end
section
variable{X:Cx}{st:Stmt}{rest:List Stmt}{t u:TS}{e:Expr}{te:TE}{pos:Pos}
def KO:TS:=fun D σ H=>D.nx σ H
def Oz(t u:TS):TS:=fun D σ H=>t {D with nx:=u D} σ H
theorem aS:Az X [] KO:=fun _ _ σ H _ I h=>wpAny_execs_nil ⟨σ,H,I,h⟩
theorem av(h1:PS X st t)(h2:Az X rest u):Az X (st::rest) (Oz t u):=by
 intro pins s σ H D I h;refine wpAny_execs_cons (cy (h1 pins s σ H {D with nx:=u D} I h) fun f s1 q=>?_);cases f with
 |next=>
  obtain⟨bF,H',I',q⟩:=q;exact h2 pins s1 bF H' D I' q
 |ret v=>exact q
 |brk=>exact q
 |cont=>exact q
theorem ao(h1:PS X st t):Az X [st] t:=by
 intro pins s σ H D I h;refine wpAny_execs_cons (cy (h1 pins s σ H D I h) fun f s1 q=>?_);cases f with
 |next=>exact wpAny_execs_nil q
 |ret v=>exact q
 |brk=>exact q
 |cont=>exact q
theorem Inv.quiet{pins:List (Addr×Obj)}{σ:St}{H:Hp}{s:Shared}(I:Inv X pins σ H s):interactive X.env=false:=by simp[interactive,I.ok.kind]
def KP(te:TE):TS:=fun D σ H=>te σ H fun _ H1=>D.nx σ H1
theorem aY(he:PE X e te)(hs:swapsWith e none pos.line X.env=pure false:=by rfl):PS X (.Expr e pos) (KP te):=by
 intro pins s σ H D I h;exact wpAny_Expr_any (cy (he pins s σ H _ I h) fun v s1 ⟨x,H1,I1,r1,q1⟩=>⟨σ,H1,I1,q1⟩) I.quiet hs
def OA(te:TE):TS:=fun D σ H=>te σ H D.rt
theorem aM(he:PE X e te):PS X (.Return (some e) pos) (OA te):=by
 intro pins s σ H D I h;exact wpAny_Return_some (cy (he pins s σ H _ I h) fun v s1 ⟨x,H1,I1,r1,q1⟩=>⟨x,σ,H1,I1,r1,q1⟩)
def OB(c:TT)(t u:TS):TS:=fun D σ H=>c σ H fun b H1=>if b=true then t D σ H1 else u D σ H1
theorem bj{c:Expr}{a b:List Stmt}{tc:TT}(hc:PT X c tc)(ha:Az X a t)(hb:Az X b u):PS X (.If c a b pos) (OB tc t u):=by
 intro pins s σ H D I h;refine wpAny_If (cy (hc pins s σ H _ I h) fun d s1 ⟨H1,I1,q1⟩=>?_);cases d with
 |true=>exact ha pins s1 σ H1 D I1 q1
 |false=>exact hb pins s1 σ H1 D I1 q1
end
abbrev TG:=V→St→Hp→(St→Hp→Prop)→Prop
abbrev F0:=List V→St→Hp→(St→Hp→Prop)→Prop
def PG(X:Cx)(target:Expr)(t:TG):Prop:=
 ∀(pins:List (Addr×Obj))(s:Shared)(σ:St)(H:Hp)(v:V)(u:Value)(Q:St→Hp→Prop),Inv X pins σ H s→RelV v u→t v σ H Q→
  wpAny Xv X.A (assign target X.env u) (fun _ s'=>∃bF H',Inv X pins bF H' s'∧Q bF H') X.xe s
def KR(X:Cx)(ts:List Expr)(t:F0):Prop:=
 ∀(pins:List (Addr×Obj))(s:Shared)(σ:St)(H:Hp)(vs:List V)(us:List Value)(Q:St→Hp→Prop),Inv X pins σ H s→Vals vs us→t vs σ H Q→
  wpAny Xv X.A (assignInOrder ((assignEach ts X.env).map (·.2)) us) (fun _ s'=>∃bF H',Inv X pins bF H' s'∧Q bF H') X.xe s
abbrev Hr:=V→V→V→Hp→(Hp→Prop)→Prop
def KS(X:Cx)(t:Hr):Prop:=
 ∀(pins:List (Addr×Obj))(s:Shared)(σ:St)(H:Hp)(o i v:V)(ov iv u:Value)(Q:Hp→Prop),Inv X pins σ H s→RelV o ov→RelV i iv→RelV v u→t o i v H Q→
  wpAny Xv X.A (setItem ov iv u) (fun _ s'=>∃H',Inv X pins σ H' s'∧Q H') X.xe s
section
variable{X:Cx}{pos:Pos}
def YA(i:Nat):TG:=fun v σ H Q=>Q (σ.set i (some v)) H
theorem aL{i:Nat}{x:Str}(hN:X.N.Nodup)(hi:X.N[i]?=some x)(hx:Loc X.env.scope x)(hf:X.fn x=true∨X.env.scope.names.lookup x=some .local:=by first|exact .inl rfl|exact .inr rfl|assumption):PG X (.Name x pos) (YA i):=by
 intro pins s σ H v u Q I r h;exact wpAny_assign_Name (w9 I hN hi hx r (fun s' I'=>⟨_,H,I',h⟩) hf)
def OC:F0:=fun vs σ H Q=>vs=[]∧Q σ H
def KU(t:TG)(u:F0):F0:=fun vs σ H Q=>∃v r,vs=v::r∧t v σ H fun bF H'=>u r bF H' Q
theorem jd:KR X [] OC:=by
 intro pins s σ H vs us Q I r h;obtain⟨e,h⟩:=h;subst e;cases r;exact assignInOrder_nil ⟨σ,H,I,h⟩
theorem br{e:Expr}{es:List Expr}{t:TG}{u:F0}(h1:PG X e t)(h2:KR X es u)
  (hs:(assignEach (e::es) X.env).map (·.2)=assign e X.env::(assignEach es X.env).map (·.2):=by rfl):KR X (e::es) (KU t u):=by
 intro pins s σ H vs us Q I r h;obtain⟨v,vr,e1,h⟩:=h;subst e1;cases r with
 |cons r rr=>
  rw[hs];refine assignInOrder_cons (cy (h1 pins s σ H _ _ _ I r h) fun _ s1 ⟨JY,H1,I1,q1⟩=>?_);exact h2 pins s1 JY H1 _ _ Q I1 rr q1
inductive Hs(K:PySem.W.Frag)(n:Nat)(t:F0)(v:V)(σ:St)(H:Hp)(Q:St→Hp→Prop):Prop
 |mk (a:_) (xs:_) (_:v= .ref a) (_:BK K H a xs) (_:xs.length=n) (_:t xs σ H Q):Hs K n t v σ H Q
theorem Ht{es:List Expr}{k:Nat}{t:F0}{n:Nat}(hc:X.calm=true)(h:KR X es t)
  (hn:(assignEach es X.env).length=n:=by rfl) (uR:(assignEach es X.env).findIdx? (·.1)=none:=by rfl):PG X (.Tuple es k pos) (Hs X.K n t):=by
 intro pins s σ H v u Q I r hw;obtain⟨a,xs,e1,hq,hl,hw⟩:=hw;subst e1;cases r;obtain⟨its,rv,ht,hz⟩:=I.tuple hq;refine assign_Tuple_tuple (I.ok.hd hc) ht (by simp[hn,←hl,rv.length]) uR fun h' hx=>?_
 have I1:Inv X pins σ H {s with heap:=h'}:=I.kept (t':=s.toks) fun b o e=>hx b o (Nat.ne_of_lt (Heap.lt_size e)) e
 exact h pins _ σ H xs _ Q I1 (by simpa using rv) hw
def OD(to ti:TE)(t:Hr):TG:=fun v σ H Q=>to σ H fun o H1=>ti σ H1 fun i H2=>t o i v H2 fun H3=>Q σ H3
theorem Hu{o i:Expr}{to ti:TE}{t:Hr}(ho:PE X o to)(hi:PE X i ti)(hs:KS X t)
  (ha:∀v,assign (.Subscript o i pos) X.env v=(do
   let ov←holding [v] (eval o X.env)
   let iv←holding [v,ov] (eval i X.env)
   standAt pos
   holding [v,ov,iv] (setItem ov iv v)
   release [v,ov,iv] []):=by intro _;rfl):PG X (.Subscript o i pos) (OD to ti t):=by
 intro pins s σ H v u Q I r h;rw[ha];refine wpAny_bind (wpAny_holding (cy (ho pins s σ H _ I h) fun ov s1 ⟨x,H1,I1,r1,q1⟩=>?_));refine wpAny_bind (wpAny_holding (cy (hi pins s1 σ H1 _ I1 q1) fun iv s2 ⟨y,H2,I2,r2,q2⟩=>?_));refine wpAny_bind (wpAny_standAt (wpAny_bind (wpAny_holding (cy (hs pins s2 σ H2 x y v ov iv u _ I2 r1 r2 r q2) fun _ s3 ⟨H3,I3,q3⟩=>?_))));exact wpAny_release ⟨σ,H3,I3,q3⟩
def Hv(te:TE)(g:TG):TS:=fun D σ H=>te σ H fun x H1=>g x σ H1 D.nx
theorem Hw{tg e:Expr}{te:TE}{g:TG}(he:PE X e te)(hg:PG X tg g)(hs:swapsWithSole [tg] e pos.line X.env=pure false:=by rfl)(hw:swappedStores [tg] e X.env=pure none:=by rfl)
  (h1:(assignEach [tg] X.env).map (·.2)=[assign tg X.env]:=by rfl):PS X (.Assign [tg] e pos) (Hv te g):=by
 intro pins s σ H D I h;refine wpAny_Assign_stores (cy (he pins s σ H _ I h) fun v s1 ⟨x,H1,I1,r1,q1⟩=>?_) hs hw;rw[h1];exact cy (hg pins s1 σ H1 x v _ I1 r1 q1) fun _ s2 q=>q
theorem aH{i:Nat}{x:Str}{e:Expr}{te:TE}{pos':Pos}(hN:X.N.Nodup)(hi:X.N[i]?=some x)(hx:Loc X.env.scope x)(he:PE X e te)(hs:swapsWith e (some (.Name x pos')) pos.line X.env=pure false:=by rfl)(hf:X.fn x=true∨X.env.scope.names.lookup x=some .local:=by first|exact .inl rfl|exact .inr rfl|assumption):
  PS X (.Assign [.Name x pos'] e pos) (Hv te (YA i)):=by
 intro pins s σ H D I h;refine wpAny_Assign_Name (cy (he pins s σ H _ I h) fun v s1 ⟨y,H1,I1,r1,q1⟩=>?_) hs;exact w9 I1 hN hi hx r1 (fun s2 I2=>⟨_,H1,I2,q1⟩) hf
end
section
variable{X:Cx}{pos:Pos}
def Hx(c:TT)(tb:TS):TS:=fun D σ H=>∃W:Nat→St→Hp→Prop,(∃m,W m σ H)∧∀m σ H,W m σ H→
 c σ H fun b H1=>if b=true then ∃N:St→Hp→Prop,(∀bF H',N bF H'→∃m',m'<m∧W m' bF H')∧tb {D with nx:=N,ct:=N,bk:=D.nx} σ H1 else D.nx σ H1
theorem s_{c:Expr}{body:List Stmt}{tc:TT}{tb:TS}(hp:PassesOwn (model X.prog X.w) X.A X.env X.xe)(hc:PT X c tc)(hb:Az X body tb):PS X (.While c body [] pos) (Hx tc tb):=by
 intro pins s σ H D I h;obtain⟨W,⟨m0,w0⟩,turn⟩:=h;refine wpAny_While (codeAny_whileLoop (fun n s'=>∃bF H',Inv X pins bF H' s'∧W n bF H') ?_ m0 ⟨σ,H,I,w0⟩);rintro n s1 ⟨JY,H1,I1,w1⟩;refine wpAny_passesOwn hp (cy (hc pins s1 JY H1 _ I1 (turn n JY H1 w1)) fun b s2 ⟨H2,I2,q2⟩=>?_);cases b with
 |true=>
  obtain⟨N,hN,q2⟩:=q2;rw[if_pos rfl];refine wpAny_passesOwn hp (cy (hb pins s2 JY H2 _ I2 q2) fun f s3 q3=>?_);cases f with
  |next=>
   obtain⟨BL,H3,I3,n3⟩:=q3;obtain⟨m',hm,w3⟩:=hN BL H3 n3;exact⟨m',hm,BL,H3,I3,w3⟩
  |cont=>
   obtain⟨BL,H3,I3,n3⟩:=q3;obtain⟨m',hm,w3⟩:=hN BL H3 n3;exact⟨m',hm,BL,H3,I3,w3⟩
  |brk=>exact q3
  |ret v=>exact q3
 |false=>
  rw[Xm Bool.false_ne_true];exact wpAny_execs_nil ⟨JY,H2,I2,q2⟩
end
structure It where
 go:Nat→Hp→Prop
 Ej:Nat→Hp→V→Hp→Prop
 stop:Nat→Hp→Prop
def iX(X:Cx)(pins:List (Addr×Obj))(H:Hp)(b:Addr):Prop:=
 H b=none∧b≠X.env.locals∧b∉X.fs∧(b∈X.ex∨X.de.heap.objs.size≤b)∧(∀x c,X.env.cells.lookup x=some c→c≠b)∧∀p∈X.pn++pins,p.1≠b
theorem Inv.uq{X:Cx}{pins:List (Addr×Obj)}{σ:St}{H H':Hp}{s:Shared}{b:Addr}(I:Inv X pins σ H s)(hb:s.heap.objs.size≤b)(hn:H' b=none):iX X pins H' b:=by
 refine⟨hn,Nat.ne_of_gt (Nat.lt_of_lt_of_le I.lt hb),I.Oq hb, .inr (Nat.le_trans I.sz hb),fun x c e z=>?_,fun p hp z=>?_⟩
 ·obtain⟨v,q⟩:=I.cell x c e;exact absurd (Nat.lt_of_lt_of_le q.lt (by rw[z];exact hb)) (Nat.lt_irrefl _)
 ·exact absurd (Nat.lt_of_lt_of_le (Heap.lt_size (I.pin p hp).1) (by rw[z];exact hb)) (Nat.lt_irrefl _)
structure Turn(P:Program)(w:World)(K:PySem.W.Frag)(tg:Expr)(J:It)(fp:List Addr)(it:Addr)(tn:Nat→Heap→Prop):Prop where
 mem:it∈fp
 obj:∀i h,tn i h→∀b∈fp,∃o,h.get? b=some o∧∀v,o.data≠ .cell v
 keep:∀i h h',tn i h→(∀b∈fp,∀o,h.get? b=some o→h'.get? b=some o)→tn i h'
 item:∀(X:Cx),X.prog=P→X.w=w→X.K=K→X.calm=true→∀(i:Nat)(pins:List (Addr×Obj))(s:Shared)(σ:St)(H:Hp)(E:Value→Shared→Prop),Inv X pins σ H s→(∀b∈fp,iX X pins H b)→tn i s.heap→J.go i H→
  wpAny (model P w) X.A (pyNext (.ref it)) (fun r s1=>∃u,r=some u∧
   wpAny (model P w) X.A (letOwnedTupleGo tg (.ref it) u) (fun _ s2=>∃x H',Inv X pins σ H' s2∧RelV x u∧J.Ej i H x H'∧tn (i+1) s2.heap∧∀b∈fp,H' b=none) E s1) E s
 done:∀(X:Cx),X.prog=P→X.w=w→X.K=K→X.calm=true→∀(i:Nat)(pins:List (Addr×Obj))(s:Shared)(σ:St)(H:Hp)(E:Value→Shared→Prop),Inv X pins σ H s→(∀b∈fp,iX X pins H b)→tn i s.heap→J.stop i H→
  wpAny (model P w) X.A (pyNext (.ref it)) (fun r s1=>r=none∧Inv X pins σ H s1) E s
 self:∀(A:Around)(i:Nat)(s:Shared)(Q:Value→Shared→Prop)(E:Value→Shared→Prop),tn i s.heap→Q (.ref it) s→wpAny (model P w) A (pyIter (.ref it)) Q E s
abbrev TI:=St→Hp→(It→Hp→Prop)→Prop
def OE(X:Cx)(pins:List (Addr×Obj))(σ:St)(tg:Expr)(R:It→Hp→Prop)(OF:Value)(s2:Shared):Prop:=
 ∃(it:Addr)(fp:List Addr)(tn:Nat→Heap→Prop)(J:It)(H':Hp),OF= .ref it∧Inv X pins σ H' s2∧Turn X.prog X.w X.K tg J fp it tn∧tn 0 s2.heap∧(∀b∈fp,iX X pins H' b)∧R J H'
def PI(X:Cx)(tg iter:Expr)(wi:TI):Prop:=
 ∀(pins:List (Addr×Obj))(s:Shared)(σ:St)(H:Hp)(R:It→Hp→Prop),Inv X pins σ H s→wi σ H R→
  wpAny Xv X.A (eval iter X.env) (fun v s1=>wpAny Xv X.A (pyIter v) (OE X pins σ tg R) X.xe s1) X.xe s
theorem Y3{M:Model}{A:Around}{E:Value→Shared→Prop}{s:Shared}{tg:Expr}{it:Addr}{u:Value}{o:Obj}{n:String}{vs:Array Value}{Q:Unit→Shared→Prop}(ho:s.heap.get? it=some o)(hc:o.cls= .type n)(hd:o.data= .fields vs)
  (hn:["enumerate","zip","dict_itemiterator","dict_reverseitemiterator","odict_iterator","itertools.zip_longest","itertools.pairwise"].contains n=false) (hQ:Q () s):wpAny M A (letOwnedTupleGo tg (.ref it) u) Q E s:=by
 unfold letOwnedTupleGo;cases tg<;>first
  |exact wpAny_pure hQ
  |(cases u<;>first
    |exact wpAny_pure hQ
    |(refine wpAny_bind (wpAny_load ho ?_)
      rw[hc,hd];show wpAny M A (if (["enumerate","zip","dict_itemiterator","dict_reverseitemiterator","odict_iterator","itertools.zip_longest","itertools.pairwise"].contains n&&vs[0]?==some (rawInt _))=true then _ else _) Q E s;rw[Xm (by intro h;rw[hn,Bool.false_and]at h;cases h)];exact wpAny_pure hQ))
def JZ(K:PySem.W.Frag)(a:Addr):It:=
 ⟨fun i H=>∃xs x,jb K H a xs∧xs[i]?=some x,fun i H x H'=>H'=H∧∀xs,jb K H a xs→xs[i]?=some x,fun i H=>∃xs,jb K H a xs∧xs.length≤i⟩
def Hy(lo:Int)(n:Nat):It:=⟨fun i _=>i<n,fun i H x H'=>H'=H∧x= .int (lo+i),fun i _=>n≤i⟩
theorem AB{P:Program}{w:World}{K:PySem.W.Frag}{tg:Expr}(a it:Addr):Turn P w K tg (JZ K a) [it] it (fun i h=>h.IsListIter it a i) where
 mem:=XE
 obj:=fun i h st b hb=>by
  have e:b=it:=by simpa using hb
  subst e;obtain⟨o,e,c,d⟩:=st;exact⟨o,e,fun v z=>by rw[d]at z;cases z⟩
 keep:=fun i h h' st k=>st.at fun o e=>k it (XE) o e
 item:=by
  intro X hP hw hK hc i pins s σ H E I hf st hg;subst hP hw hK;obtain⟨xs,x,hq,hx⟩:=hg;obtain⟨its,rv,p,hz⟩:=I.list hq;obtain⟨u,hu,ru⟩:=rv.get hx;obtain⟨f0,f1,f2,f3,f4,f5⟩:=hf it (XE);refine wpAny_pyNext_list_item st p.isList (x:=u) (by simpa using hu) fun h' aN sb=>?_
  have I1:Inv X pins σ H {s with heap:=h'}:=I.turned (t':=s.toks) (fun b o hb e=>(sb.2 b hb).trans e) f0 f1 f3 f4 f5;obtain⟨o,e,c,d⟩:=id aN;exact⟨u,rfl,Y3 (s:={s with heap:=h'}) e c d (XC) ⟨x,H,I1,ru,⟨rfl,fun ys hy=>by rw[I.Yu hy hq];exact hx⟩,aN,fun b hb=>(hf b hb).1⟩⟩
 done:=by
  intro X hP hw hK hc i pins s σ H E I hf st hg;subst hP hw hK;obtain⟨xs,hq,hx⟩:=hg;obtain⟨its,rv,p,hz⟩:=I.list hq;obtain⟨f0,f1,f2,f3,f4,f5⟩:=hf it (XE);have hl:=rv.length;exact wpAny_pyNext_list_end (I.ok.hd hc) st p.isList (by simp;omega) fun h' eb=>⟨rfl,I.turned (t':=s.toks) (fun b o hb e=>eb b o hb e) f0 f1 f3 f4 f5⟩
 self:=fun _ _ _ _ _ st h=>wpAny_pyIter_listiter st h
theorem Zt{P:Program}{w:World}{K:PySem.W.Frag}{tg:Expr}(it:Addr)(lo:Int)(n:Nat):Turn P w K tg (Hy lo n) [it] it (fun i h=>IsRangeIter h it (lo+(i:Nat)*1) ((n:Int)-(i:Nat)) 1) where
 mem:=XE
 obj:=fun i h st b hb=>by
  have e:b=it:=by simpa using hb
  subst e;exact⟨_,st,fun v z=>by
   have z':Data.fields _=Data.cell v:=z;cases z'⟩
 keep:=fun i h h' st k=>k it (XE) _ st
 item:=by
  intro X hP hw hK hc i pins s σ H E I hf st hg;subst hP hw hK;obtain⟨f0,f1,f2,f3,f4,f5⟩:=hf it (XE);have W:=Walks.range (prog:=X.prog) (w:=X.w) (I.ok.hd hc) it lo 1 n;refine W.item i s _ _ hg st fun v h' tk hv aN kk=>?_
  obtain⟨t,rfl⟩:=hv;have I1:Inv X pins σ H {s with heap:=h',toks:=tk}:=I.turned (fun b o hb e=>kk b o (by simpa using hb) e) f0 f1 f3 f4 f5;refine⟨_,rfl,Y3 (s:={s with heap:=h',toks:=tk}) (n:="range_iterator") aN rfl rfl (XC) ⟨.int (lo+i),H,I1,⟨t,?_⟩,⟨rfl,rfl⟩,aN,fun b hb=>(hf b hb).1⟩⟩;rw[Int.mul_one]
 done:=by
  intro X hP hw hK hc i pins s σ H E I hf st hg;subst hP hw hK;obtain⟨f0,f1,f2,f3,f4,f5⟩:=hf it (XE);exact wpAny_pyNext_range_end (I.ok.hd hc) st (by have:n≤i:=hg;omega) fun h' eb=>⟨rfl,I.turned (t':=s.toks) (fun b o hb e=>eb b o hb e) f0 f1 f3 f4 f5⟩
 self:=fun _ _ _ _ _ st h=>wpAny_pyIter_rangeiter st h
section
variable{X:Cx}{tg:Expr}
def F1(K:PySem.W.Frag)(tl:TE):TI:=fun σ H R=>tl σ H fun x H1=>∃a,x= .ref a∧(∃xs,jb K H1 a xs)∧R (JZ K a) H1
theorem Ek{l:Expr}{tl:TE}(hl:PE X l tl):PI X tg l (F1 X.K tl):=by
 intro pins s σ H R I h;refine cy (hl pins s σ H _ I h) fun v s1 ⟨x,H1,I1,r1,q1⟩=>?_
 obtain⟨a,e,⟨xs,hq⟩,q⟩:=q1;subst e;cases r1;obtain⟨its,rv,p,hz⟩:=I1.list hq;refine wpAny_pyIter_list p.isList ?_;refine⟨s1.heap.objs.size,[s1.heap.objs.size],_,_,H1,rfl,I1.kept (t':=s1.toks) fun b o e=>Xo e,AB a _,⟨_,Heap.get?_push_size _ rfl,rfl,rfl⟩,fun b hb=>?_,q⟩;have e:b=s1.heap.objs.size:=by simpa using hb
 subst e;exact I1.uq (Nat.le_refl _) (I1.bO.fresh (Nat.le_refl _))
theorem BM{pins:List (Addr×Obj)}{σ:St}{H:Hp}{s:Shared}{R:It→Hp→Prop}{E:Value→Shared→Prop}{lo hi:Int}{t u v:Tok}{tk:Nat}(I:Inv X pins σ H s)(h1:-(2^62)≤lo)(h2:lo<2^62)(h3:-(2^62)≤hi)(h4:hi<2^62)
  (q:R (Hy lo (hi-lo).toNat) H):wpAny Xv X.A (pyIter (.ref s.heap.objs.size)) (OE X pins σ tg R) E {s with heap:=s.heap.push {cls:= .type "range",data:= .fields #[.int lo t, .int hi u, .int 1 v]},toks:=tk}:=by
 refine wpAny_pyIter_range (IsRange.new ..) (small_one h1 h2 h3 h4) ?_;have I1:Inv X pins σ H {s with heap:=s.heap.push {cls:= .type "range",data:= .fields #[.int lo t, .int hi u, .int 1 v]},toks:=tk}:=I.kept fun b o e=>Xo e
 refine⟨(s.heap.push {cls:= .type "range",data:= .fields #[.int lo t, .int hi u, .int 1 v]}).objs.size,[(s.heap.push {cls:= .type "range",data:= .fields #[.int lo t, .int hi u, .int 1 v]}).objs.size],_,_,H,rfl,
  I1.kept (t':=tk) fun b o e=>Xo e,Zt _ lo (hi-lo).toNat,?_,fun b hb=>?_,q⟩
 ·have e1:lo+((0:Nat):Int)*1=lo:=XE;have e2:(((hi-lo).toNat:Nat):Int)-((0:Nat):Int)=Builtin.Range.rangeSize lo hi 1:=by rw[rangeSize_one];split<;>omega
  show IsRangeIter _ _ (lo+((0:Nat):Int)*1) ((((hi-lo).toNat:Nat):Int)-((0:Nat):Int)) 1;rw[e1,e2];exact Heap.get?_push_size _ rfl
 ·have e:b=(s.heap.push {cls:= .type "range",data:= .fields #[.int lo t, .int hi u, .int 1 v]}).objs.size:=by simpa using hb
  subst e;exact I1.uq (Nat.le_refl _) (I1.bO.fresh (Nat.le_refl _))
def KW(ta:TA):TI:=fun σ H R=>ta σ H fun vs H1=>∃j:Int,vs=[.int j]∧-(2^62)≤j∧j<2^62∧R (Hy 0 j.toNat) H1
theorem f7{a:Expr}{ta:TA}{p pos:Pos}(hg:Gl X "range")(hm:X.mg "range"=none)(ha:PA X [a] ta)(hs:starEach [a] X.env=[(false,eval a X.env)]:=by rfl):PI X tg (.Call (.Name "range" p) [a] [] pos) (KW ta):=by
 intro pins s σ H R I h;refine Call_ (mI I hg hm boot_range (PyProof.Rows.callWith_type1 (cy (ha pos pins s σ H _ I h) fun us s1 ⟨vs,H1,I1,r1,q1⟩=>?_) hs rfl));obtain⟨j,e,q1,q2,q⟩:=q1;subst e;cases r1 with
 |cons r rr=>
  cases rr;obtain⟨t,rfl⟩:=r;exact call_range_1 (BM I1 Xz (XB) q1 q2 (by simpa using q))
def OG(wi:TI)(g:TG)(tb:TS):TS:=fun D σ H=>wi σ H fun J H1=>∃W:Nat→Nat→St→Hp→Prop,(∃m,W 0 m σ H1)∧∀i m σ H,W i m σ H→
 (J.stop i H∧D.nx σ H)∨(J.go i H∧∃N:St→Hp→Prop,(∀bF H',N bF H'→∃m',m'<m∧W (i+1) m' bF H')∧∀x H',J.Ej i H x H'→g x σ H' fun gc H2=>tb {D with nx:=N,ct:=N,bk:=D.nx} gc H2)
def tf(fp:List Addr)(h:Heap):List (Addr×Obj):=fp.filterMap fun b=>(h.get? b).map fun o=>(b,o)
theorem g9{fp:List Addr}{h:Heap}{b:Addr}{o:Obj}(hb:b∈fp)(e:h.get? b=some o):(b,o)∈tf fp h:=List.mem_filterMap.mpr ⟨b,hb,by rw[e];rfl⟩
theorem AD{fp:List Addr}{h:Heap}{p:Addr×Obj}(hp:p∈tf fp h):p.1∈fp∧h.get? p.1=some p.2:=by
 obtain⟨b,hb,e⟩:=List.mem_filterMap.mp hp;cases q:h.get? b with
 |none=>rw[q]at e;cases e
 |some o=>
  rw[q]at e;have e':(b,o)=p:=Xs e;subst e';exact⟨hb,q⟩
theorem Inv.pinned{pins:List (Addr×Obj)}{σ:St}{H:Hp}{s:Shared}{fp:List Addr}(I:Inv X pins σ H s)(hf:∀b∈fp,iX X pins H b)(ho:∀b∈fp,∃o,s.heap.get? b=some o∧∀v,o.data≠ .cell v):Inv X (pins++tf fp s.heap) σ H s:=
 I.Yi fun p hp=>(List.mem_append.mp hp).elim (fun z=>I.pin p (List.mem_append_right _ z)) fun z=>by
  obtain⟨hb,e⟩:=AD z;obtain⟨f0,f1,f2,_⟩:=hf p.1 hb;obtain⟨o,e',d⟩:=ho p.1 hb;rw[e]at e';cases e';exact⟨e,f0,f1,f2,d⟩
theorem Inv.mJ{pins pl:List (Addr×Obj)}{σ:St}{H:Hp}{s:Shared}(I:Inv X (pins++pl) σ H s):Inv X pins σ H s:=I.Yi fun p hp=>I.pin p (List.mem_append_right _ (List.mem_append_left _ hp))
theorem b_{iter:Expr}{body:List Stmt}{wi:TI}{g:TG}{tb:TS}{pos:Pos}(hp:PassesOwn (model X.prog X.w) X.A X.env X.xe)(hc:X.calm=true)(hi:PI X tg iter wi)(hg:PG X tg g)(hb:Az X body tb)
  (hs:∀x,foldedSetIterable iter X.env x=pure x:=by intro _;rfl):PS X (.For tg iter body [] pos) (OG wi g tb):=by
 intro pins s σ H D I h;refine wpAny_For (cy (hi pins s σ H _ I h) fun v s1 h1=>cy h1 fun OF s2 h2=>?_) hs;obtain⟨it,fp,tn,J,H2,e,I2,T,dG,f2,W,⟨m0,w0⟩,turn⟩:=h2;subst e;have XU:∀{H':Hp},(∀b∈fp,H' b=none)→∀b∈fp,iX X pins H' b:=fun hn b hb=>⟨hn b hb,(f2 b hb).2⟩
 refine codeAny_forLoop_any (fun n s'=>∃i bF H',Inv X pins bF H' s'∧tn i s'.heap∧(∀b∈fp,H' b=none)∧W i n bF H') ?_ m0 ⟨0,σ,H2,I2,dG,fun b hb=>(f2 b hb).1,w0⟩;rintro n s3 ⟨i,BL,H3,I3,BN,J0,w3⟩;rcases turn i n BL H3 w3 with⟨stop,qn⟩|⟨go,N,hN,step⟩
 ·refine wpAny_passesOwn hp (cy (T.done X rfl rfl rfl hc i pins s3 BL H3 X.xe I3 (XU J0) BN stop) fun r s4 ⟨hr,I4⟩=>?_);subst hr;exact wpAny_execs_nil ⟨BL,H3,I4,qn⟩
 ·refine wpAny_passesOwn hp (cy (T.item X rfl rfl rfl hc i pins s3 BL H3 X.xe I3 (XU J0) BN go) fun r s4 ⟨u,hr,h4⟩=>?_);subst hr;refine wpAny_passesOwn hp (cy h4 fun _ s5 ⟨x,H5,I5,r5,y5,J1,M_⟩=>?_);have Tj:=I5.pinned (XU M_) (T.obj _ _ J1);refine wpAny_passesOwn hp (cy (hg _ s5 BL H5 x u _ Tj r5 (step x H5 y5)) fun _ s6 ⟨Tn,H6,I6,q6⟩=>?_);refine wpAny_passesOwn hp (cy (hb _ s6 Tn H6 _ I6 q6) fun f s7 q7=>?_);have again:∀{BO:St}{H7:Hp},Inv X (pins++tf fp s5.heap) BO H7 s7→N BO H7→∃m,m<n∧∃i bF H',Inv X pins bF H' s7∧tn i s7.heap∧(∀b∈fp,H' b=none)∧W i m bF H':=fun{BO H7} I7 n7=>by
   obtain⟨m',hm,w7⟩:=hN BO H7 n7;refine⟨m',hm,i+1,BO,H7,I7.mJ,T.keep _ _ _ J1 fun b hb o e=>(I7.pin (b,o) (List.mem_append_right _ (List.mem_append_right _ (g9 hb e)))).1,fun b hb=>?_,w7⟩;obtain⟨o,e,d⟩:=T.obj _ _ J1 b hb;exact(I7.pin (b,o) (List.mem_append_right _ (List.mem_append_right _ (g9 hb e)))).2.1
  cases f with
  |next=>obtain⟨BO,H7,I7,n7⟩:=q7;exact again I7 n7
  |cont=>obtain⟨BO,H7,I7,n7⟩:=q7;exact again I7 n7
  |brk=>obtain⟨BO,H7,I7,q7⟩:=q7;exact⟨BO,H7,I7.mJ,q7⟩
  |ret v=>obtain⟨x7,BO,H7,I7,r7,q7⟩:=q7;exact⟨x7,BO,H7,I7.mJ,r7,q7⟩
end
theorem cD{K:PySem.W.Frag}{a:Addr}{xs:List V}{g:TG}{tb:TS}{D:Ends}{σ:St}{H:Hp}(Pv:Nat→St→Hp→Prop)(h0:Pv 0 σ H)(hl:∀i σ H,i≤xs.length→Pv i σ H→jb K H a xs)
  (hs:∀i x σ H,xs[i]?=some x→Pv i σ H→g x σ H fun gc H2=>tb {D with nx:=Pv (i+1),ct:=Pv (i+1),bk:=D.nx} gc H2) (hd:∀σ H,Pv xs.length σ H→D.nx σ H):
  ∃W:Nat→Nat→St→Hp→Prop,(∃m,W 0 m σ H)∧∀i m σ H,W i m σ H→
   ((JZ K a).stop i H∧D.nx σ H)∨((JZ K a).go i H∧∃N:St→Hp→Prop,(∀bF H',N bF H'→∃m',m'<m∧W (i+1) m' bF H')∧∀x H',(JZ K a).Ej i H x H'→g x σ H' fun gc H2=>tb {D with nx:=N,ct:=N,bk:=D.nx} gc H2):=by
 refine⟨fun i m σ H=>m=xs.length-i∧i≤xs.length∧Pv i σ H,⟨xs.length,XE,Nat.zero_le _,h0⟩,?_⟩;rintro i m σ H ⟨rfl,hi,p⟩;have q:=hl i σ H hi p;by_cases iM:i<xs.length
 ·refine .inr ⟨⟨xs,xs[i],q,by simp[iM]⟩,Pv (i+1),fun bF H' p'=>⟨xs.length-(i+1),XB,rfl,iM,p'⟩,fun x H' y=>?_⟩;obtain⟨e,y⟩:=y;subst e;exact hs i x σ _ (y xs q) p
 ·have e:i=xs.length:=XB;subst e;exact .inl ⟨⟨xs,q,Nat.le_refl _⟩,hd σ H p⟩
theorem g_{lo:Int}{n:Nat}{g:TG}{tb:TS}{D:Ends}{σ:St}{H:Hp}(Pv:Nat→St→Hp→Prop)(h0:Pv 0 σ H)
  (hs:∀i σ H,i<n→Pv i σ H→g (.int (lo+i)) σ H fun gc H2=>tb {D with nx:=Pv (i+1),ct:=Pv (i+1),bk:=D.nx} gc H2) (hd:∀σ H,Pv n σ H→D.nx σ H):
  ∃W:Nat→Nat→St→Hp→Prop,(∃m,W 0 m σ H)∧∀i m σ H,W i m σ H→
   ((Hy lo n).stop i H∧D.nx σ H)∨((Hy lo n).go i H∧∃N:St→Hp→Prop,(∀bF H',N bF H'→∃m',m'<m∧W (i+1) m' bF H')∧∀x H',(Hy lo n).Ej i H x H'→g x σ H' fun gc H2=>tb {D with nx:=N,ct:=N,bk:=D.nx} gc H2):=by
 refine⟨fun i m σ H=>m=n-i∧i≤n∧Pv i σ H,⟨n,XE,Nat.zero_le _,h0⟩,?_⟩;rintro i m σ H ⟨rfl,hi,p⟩;by_cases iM:i<n
 ·refine .inr ⟨iM,Pv (i+1),fun bF H' p'=>⟨n-(i+1),XB,rfl,iM,p'⟩,fun x H' y=>?_⟩;obtain⟨e,y⟩:=y;subst e y;exact hs i σ _ iM p
 ·have e:i=n:=XB;subst e;exact .inl ⟨Nat.le_refl _,hd σ H p⟩
abbrev R2:=V→V→Hp→VK→Prop
def sk(X:Cx)(f:Value→Value→Sem Value)(r:R2):Prop:=
 ∀(pins:List (Addr×Obj))(s:Shared)(σ:St)(H:Hp)(x y:V)(v u:Value)(Q:VK),Inv X pins σ H s→RelV x v→RelV y u→r x y H Q→
  wpAny Xv X.A (f v u) (EP X pins σ Q) X.xe s
def OH(X:Cx)(f:Value→Sem Value)(r:V→Hp→VK→Prop):Prop:=
 ∀(pins:List (Addr×Obj))(s:Shared)(σ:St)(H:Hp)(x:V)(v:Value)(Q:VK),Inv X pins σ H s→RelV x v→r x H Q→
  wpAny Xv X.A (f v) (EP X pins σ Q) X.xe s
def jz(X:Cx)(f:Value)(r:List V→Hp→VK→Prop):Prop:=
 ∀(pins:List (Addr×Obj))(s:Shared)(σ:St)(H:Hp)(xs:List V)(us:List Value)(Q:VK),Inv X pins σ H s→Vals xs us→r xs H Q→
  wpAny Xv X.A (call f us) (EP X pins σ Q) X.xe s
def Na(r:R2)(ta tb:TE):TE:=fun σ H Q=>ta σ H fun x H1=>tb σ H1 fun y H2=>r x y H2 Q
def To(r:V→Hp→VK→Prop)(ta:TE):TE:=fun σ H Q=>ta σ H fun x H1=>r x H1 Q
inductive rI(C:Int→Int→Prop)(g:Int→Int→V)(x:V)(y:V)(H:Hp)(Q:VK):Prop
 |mk (i:_) (j:_) (_:x= .int i) (_:y= .int j) (_:C i j) (_:Q (g i j) H):rI C g x y H Q
inductive El(g:Int→Int→V)(x:V)(y:V)(H:Hp)(Q:VK):Prop
 |mk (i:_) (j:_) (_:x= .int i) (_:y= .int j) (_:Q (g i j) H):El g x y H Q
inductive rU(g:Int→V)(x:V)(H:Hp)(Q:VK):Prop
 |mk (i:_) (_:x= .int i) (_:Q (g i) H):rU g x H Q
section
variable{X:Cx}{a b c:Expr}{ta tb tc:TE}{pos:Pos}
theorem Hz(ha:PE X a ta)(hb:PE X b tb){pins:List (Addr×Obj)}{s:Shared}{σ:St}{H:Hp}{R:V→V→Hp→Prop}(I:Inv X pins σ H s)
  (h:ta σ H fun x H1=>tb σ H1 fun y H2=>R x y H2) {Q:Value→Shared→Prop} {f:Value→Value→Sem Value}
  (hf:∀v u s2 x y H2,Inv X pins σ H2 s2→RelV x v→RelV y u→R x y H2→wpAny Xv X.A (f v u) Q X.xe s2):
  wpAny Xv X.A (eval a X.env) (fun v bW=>wpAny Xv X.A (eval b X.env) (fun u qG=>wpAny Xv X.A (f v u) Q X.xe qG) X.xe bW) X.xe s:=by
 refine cy (ha pins s σ H _ I h) fun v s1 ⟨x,H1,I1,r1,q1⟩=>?_
 refine cy (hb pins s1 σ H1 _ I1 q1) fun u s2 ⟨y,H2,I2,r2,q2⟩=>?_
 exact hf v u s2 x y H2 I2 r1 r2 q2
theorem aI{op:Operator}{r:R2}(ho:sk X (binaryOp op) r)(ha:PE X a ta)(hb:PE X b tb):PE X (.BinOp a op b pos) (Na r ta tb):=by
 intro pins s σ H Q I h;exact wpAny_BinOp (Hz ha hb I h fun v u s2 x y H2 I2 rx ry q=>ho pins s2 σ H2 x y v u Q I2 rx ry q)
theorem rL{op:UnaryOp}{r:V→Hp→VK→Prop}(ho:OH X (unaryOp op) r)(ha:PE X a ta):PE X (.UnaryOp op a pos) (To r ta):=by
 intro pins s σ H Q I h;exact UnaryOp_ (cy (ha pins s σ H _ I h) fun v s1 ⟨x,H1,I1,r1,q1⟩=>ho pins s1 σ H1 x v Q I1 r1 q1)
theorem OI{f:Value→Value→Sem Value}{C:Int→Int→Prop}{g:Int→Int→Int}
  (rule:∀(i j:Int)(t u:Tok)(s:Shared)(Q:Value→Shared→Prop)(E:Value→Shared→Prop),C i j→Q (.int (g i j) s.toks) {s with toks:=s.toks+1}→wpAny Xv X.A (f (.int i t) (.int j u)) Q E s):
  sk X f (rI C fun i j=> .int (g i j)):=by
 intro pins s σ H x y v u Q I rx ry h;obtain⟨i,j,rfl,rfl,hc,q⟩:=h;obtain⟨t,rfl⟩:=rx;obtain⟨t',rfl⟩:=ry;exact rule i j t t' s _ _ hc ⟨.int (g i j),H,I.tok _,⟨_,rfl⟩,q⟩
theorem KY{f:Value→Value→Sem Value}{g:Int→Int→Int}
  (rule:∀(i j:Int)(t u:Tok)(s:Shared)(Q:Value→Shared→Prop)(E:Value→Shared→Prop),Q (.int (g i j) s.toks) {s with toks:=s.toks+1}→wpAny Xv X.A (f (.int i t) (.int j u)) Q E s):
  sk X f (El fun i j=> .int (g i j)):=by
 intro pins s σ H x y v u Q I rx ry h;obtain⟨i,j,rfl,rfl,q⟩:=h;obtain⟨t,rfl⟩:=rx;obtain⟨t',rfl⟩:=ry;exact rule i j t t' s _ _ ⟨.int (g i j),H,I.tok _,⟨_,rfl⟩,q⟩
theorem Em{f:Value→Value→Sem Value}{g:Int→Int→Bool}
  (rule:∀(i j:Int)(t u:Tok)(s:Shared)(Q:Value→Shared→Prop)(E:Value→Shared→Prop),Q (.bool (g i j)) s→wpAny Xv X.A (f (.int i t) (.int j u)) Q E s):
  sk X f (El fun i j=> .bl (g i j)):=by
 intro pins s σ H x y v u Q I rx ry h;obtain⟨i,j,rfl,rfl,q⟩:=h;obtain⟨t,rfl⟩:=rx;obtain⟨t',rfl⟩:=ry;exact rule i j t t' s _ _ ⟨.bl (g i j),H,I,rfl,q⟩
def HA(i j:Int):Prop:=0<j∧j<1073741824
def HB(i j:Int):Prop:=(-(2^64)<i∧i<2^64)∨(-(2^64)<j∧j<2^64)
theorem HB.ok{i j:Int}(h:HB i j):IntMulOk i j:=by
 rcases h with⟨h1,h2⟩|⟨h1,h2⟩
 ·exact .of_left (intBits_le_64 h1 h2)
 ·exact .of_right (intBits_le_64 h1 h2)
theorem bA:sk X (binaryOp .Add) (El fun i j=> .int (i+j)):=KY fun _ _ _ _ _ _ _ q=>add_int q
theorem dM:sk X (binaryOp .Sub) (El fun i j=> .int (i-j)):=KY fun _ _ _ _ _ _ _ q=>sub_int q
theorem tm:sk X (binaryOp .Mult) (rI HB fun i j=> .int (i*j)):=OI fun _ _ _ _ _ _ _ hc q=>mul_int q hc.ok
theorem dN:sk X (binaryOp .FloorDiv) (rI HA fun i j=> .int (i/j)):=OI fun i j _ _ _ _ _ hc q=>by
 have h1:(0:Int)<j:=hc.1;have h2:j<1073741824:=hc.2;exact floordiv_int Xz (by rw[Int.fdiv_eq_ediv_of_nonneg i Xz];exact q) (.inl (PyProof.noPylong_small Xz))
theorem bK:sk X (binaryOp .Mod) (rI (fun _ j=>0<j) fun i j=> .int (i%j)):=OI fun i j _ _ _ _ _ hc q=>by
 have h1:(0:Int)<j:=hc;exact mod_int' Xz (by rw[Int.fmod_eq_emod_of_nonneg i Xz];exact q)
theorem Tp{f:Value→Sem Value}{g:Int→Int}
  (rule:∀(i:Int)(t:Tok)(s:Shared)(Q:Value→Shared→Prop)(E:Value→Shared→Prop),Q (.int (g i) s.toks) {s with toks:=s.toks+1}→wpAny Xv X.A (f (.int i t)) Q E s):
  OH X f (rU fun i=> .int (g i)):=by
 intro pins s σ H x v Q I rx h;obtain⟨i,rfl,q⟩:=h;obtain⟨t,rfl⟩:=rx;exact rule i t s _ _ ⟨.int (g i),H,I.tok _,⟨_,rfl⟩,q⟩
theorem mK:OH X (unaryOp .USub) (rU fun i=> .int (-i)):=Tp fun _ _ _ _ _ q=>neg_int q
end
def KZ:V→V→Bool
 | .cI, .cI=>true| .cI, .int _=>true| .int _, .cI=>true| .cI, .bl _=>true| .bl _, .cI=>true| .cI, .str _=>true| .str _, .cI=>true
 | .int _, .int _=>true| .bl _, .bl _=>true| .str _, .str _=>true| .Ax _, .Ax _=>true
 | .int _, .str _=>true| .str _, .int _=>true| .bl _, .str _=>true| .str _, .bl _=>true
 | _,_=>false
def Tq:R2:=fun x y H Q=>KZ x y=true∧Q (.bl (decide (x=y))) H
def Tr:R2:=fun x y H Q=>KZ x y=true∧Q (.bl (!decide (x=y))) H
theorem Z'{i j:Int}:decide (V.int i=V.int j)=(i==j):=by
 rw[Bool.eq_iff_iff];simp
theorem BP{i j:Bool}:decide (V.bl i=V.bl j)=(i==j):=by
 rw[Bool.eq_iff_iff];simp
theorem Yj{i j:Str}:decide (V.str i=V.str j)=(i==j):=by
 rw[Bool.eq_iff_iff];simp
theorem Yd{i j:Array UInt8}:decide (V.Ax i=V.Ax j)=(i.toList==j.toList):=by
 rw[Bool.eq_iff_iff];cases i;cases j;simp
section
variable{X:Cx}{a b c:Expr}{ta tb tc:TE}{pos:Pos}
theorem bB{pins:List (Addr×Obj)}{σ:St}{H:Hp}{s:Shared}{Q:VK}{k k':Bool}(I:Inv X pins σ H s)(q:Q (.bl k) H)(e:k=k'):EP X pins σ Q (.bool k') s:=by
 subst e;exact⟨.bl k,H,I,rfl,q⟩
theorem jA:sk X (compareOp .Eq) Tq:=by
 intro pins s σ H x y v u Q I rx ry h;obtain⟨hs,q⟩:=h;cases x with
 |cI=>
  cases rx;cases y with
  |cI=>cases ry;exact PySem.EqNone.eq_none_none (bB I q Xy)
  |bl j=>cases ry;exact PySem.EqNone.eq_none_bool (bB I q Xy)
  |int j=>obtain⟨t',rfl⟩:=ry;exact PySem.EqNone.eq_none_int (bB I q Xy)
  |str j=>obtain⟨t',rfl⟩:=ry;exact PySem.EqNone.eq_none_str (bB I q Xy)
  | _=>exact absurd (show false=true from hs) Bool.false_ne_true
 |bl i=>
  cases rx;cases y with
  |cI=>cases ry;exact PySem.EqNone.eq_bool_none (bB I q Xy)
  |bl j=>cases ry;exact eq_bool (bB I q BP)
  |str j=>obtain⟨t',rfl⟩:=ry;exact PySem.EqMixed.eq_bool_str (bB I q Xy)
  | _=>exact absurd (show false=true from hs) Bool.false_ne_true
 |int i=>
  obtain⟨t,rfl⟩:=rx;cases y with
  |cI=>cases ry;exact PySem.EqNone.eq_int_none (bB I q Xy)
  |int j=>obtain⟨t',rfl⟩:=ry;exact eq_int (bB I q Z')
  |str j=>obtain⟨t',rfl⟩:=ry;exact PySem.EqMixed.eq_int_str (bB I q Xy)
  | _=>exact absurd (show false=true from hs) Bool.false_ne_true
 |str i=>
  obtain⟨t,rfl⟩:=rx;cases y with
  |cI=>cases ry;exact PySem.EqNone.eq_str_none (bB I q Xy)
  |bl j=>cases ry;exact PySem.EqMixed.eq_str_bool (bB I q Xy)
  |int j=>obtain⟨t',rfl⟩:=ry;exact PySem.EqMixed.eq_str_int (bB I q Xy)
  |str j=>obtain⟨t',rfl⟩:=ry;exact eq_str (bB I q Yj)
  | _=>exact absurd (show false=true from hs) Bool.false_ne_true
 |Ax i=>
  obtain⟨t,rfl⟩:=rx;cases y with
  |Ax j=>obtain⟨t',rfl⟩:=ry;exact PySem.W.eq_bytes (bB I q Yd)
  | _=>exact absurd (show false=true from hs) Bool.false_ne_true
 | _=>cases y<;>exact absurd (show false=true from hs) Bool.false_ne_true
theorem BQ:sk X (compareOp .NotEq) Tr:=by
 intro pins s σ H x y v u Q I rx ry h;obtain⟨hs,q⟩:=h;cases x with
 |cI=>
  cases rx;cases y with
  |cI=>cases ry;exact PySem.EqNone.ne_none_none (bB I q Xy)
  |bl j=>cases ry;exact PySem.EqNone.ne_none_bool (bB I q Xy)
  |int j=>obtain⟨t',rfl⟩:=ry;exact PySem.EqNone.ne_none_int (bB I q Xy)
  |str j=>obtain⟨t',rfl⟩:=ry;exact PySem.EqNone.ne_none_str (bB I q Xy)
  | _=>exact absurd (show false=true from hs) Bool.false_ne_true
 |bl i=>
  cases rx;cases y with
  |cI=>cases ry;exact PySem.EqNone.ne_bool_none (bB I q Xy)
  |bl j=>cases ry;exact ne_bool (bB I q (congrArg not BP))
  |str j=>obtain⟨t',rfl⟩:=ry;exact PySem.EqMixed.ne_bool_str (bB I q Xy)
  | _=>exact absurd (show false=true from hs) Bool.false_ne_true
 |int i=>
  obtain⟨t,rfl⟩:=rx;cases y with
  |cI=>cases ry;exact PySem.EqNone.ne_int_none (bB I q Xy)
  |int j=>obtain⟨t',rfl⟩:=ry;exact ne_int (bB I q (congrArg not Z'))
  |str j=>obtain⟨t',rfl⟩:=ry;exact PySem.EqMixed.ne_int_str (bB I q Xy)
  | _=>exact absurd (show false=true from hs) Bool.false_ne_true
 |str i=>
  obtain⟨t,rfl⟩:=rx;cases y with
  |cI=>cases ry;exact PySem.EqNone.ne_str_none (bB I q Xy)
  |bl j=>cases ry;exact PySem.EqMixed.ne_str_bool (bB I q Xy)
  |int j=>obtain⟨t',rfl⟩:=ry;exact PySem.EqMixed.ne_str_int (bB I q Xy)
  |str j=>obtain⟨t',rfl⟩:=ry;exact ne_str (bB I q (congrArg not Yj))
  | _=>exact absurd (show false=true from hs) Bool.false_ne_true
 |Ax i=>
  obtain⟨t,rfl⟩:=rx;cases y with
  |Ax j=>obtain⟨t',rfl⟩:=ry;exact PySem.W.ne_bytes (bB I q (congrArg not Yd))
  | _=>exact absurd (show false=true from hs) Bool.false_ne_true
 | _=>cases y<;>exact absurd (show false=true from hs) Bool.false_ne_true
theorem rM:sk X (compareOp .Lt) (El fun i j=> .bl (decide (i<j))):=Em fun _ _ _ _ _ _ _ q=>lt_int q
theorem F5:sk X (compareOp .LtE) (El fun i j=> .bl (decide (i≤j))):=Em fun _ _ _ _ _ _ _ q=>le_int q
theorem om:sk X (compareOp .Gt) (El fun i j=> .bl (decide (j<i))):=Em fun _ _ _ _ _ _ _ q=>gt_int q
theorem F6:sk X (compareOp .GtE) (El fun i j=> .bl (decide (j≤i))):=Em fun _ _ _ _ _ _ _ q=>ge_int q
theorem aW(b:Expr){op:CmpOp}(h:op≠ .In:=by decide)(h2:op≠ .NotIn:=by decide):behindInMarks op b=false:=by
 have e1:(op==CmpOp.In)=false:=by cases op<;>first|rfl|exact absurd rfl h
 have e2:(op==CmpOp.NotIn)=false:=by cases op<;>first|rfl|exact absurd rfl h2
 cases b<;>simp[behindInMarks,e1,e2]
theorem j7{op:CmpOp}{r:R2}(ho:sk X (compareOp op) r)(ha:PE X a ta)(hb:PE X b tb)(hm:behindInMarks op b=false):PE X (.Compare a [op] [b] pos) (Na r ta tb):=by
 intro pins s σ H Q I h;exact wpAny_Compare1 (Hz ha hb I h fun v u s2 x y H2 I2 rx ry q=>ho pins s2 σ H2 x y v u Q I2 rx ry q) hm
def K0(t:TE):TT:=fun σ H Q=>t σ H fun x H'=>∃k,x= .bl k∧Q k H'
theorem aU{op:CmpOp}{r:R2}(ho:sk X (compareOp op) r)(ha:PE X a ta)(hb:PE X b tb)(hm:behindInMarks op b=false):PT X (.Compare a [op] [b] pos) (K0 (Na r ta tb)):=by
 intro pins s σ H Q I h;refine wpAny_isTrue_Compare1 (cy (ha pins s σ H _ I h) fun v s1 ⟨x,H1,I1,r1,q1⟩=>cy (hb pins s1 σ H1 _ I1 q1) fun u s2 ⟨y,H2,I2,r2,q2⟩=>
  cy (ho pins s2 σ H2 x y v u _ I2 r1 r2 q2) fun c s3 ⟨z,H3,I3,r3,k,e,q3⟩=>?_) hm
 subst e;cases r3;exact wpAny_truthy_bool ⟨H3,I3,q3⟩
theorem qI:(sizeLine:Nat)<2^63:=by rw[sizeLine_eq];decide
theorem oI:sk X (binaryOp .Add) (fun x y H Q=>∃i j,x= .str i∧y= .str j∧i.length+j.length≤sizeLine∧Q (.str (i++j)) H):=by
 intro pins s σ H x y v u Q I rx ry h;obtain⟨i,j,rfl,rfl,hz,q⟩:=h;obtain⟨t,rfl⟩:=rx;obtain⟨t',rfl⟩:=ry;exact add_str (fun t' tk=>⟨.str (i++j),H,I.tok _,⟨_,rfl⟩,q⟩) hz
theorem vals1{x:V}{us:List Value}(r:Vals [x] us):∃u,us=[u]∧RelV x u:=by
 cases r with
 |cons r1 r2=>cases r2;exact⟨_,rfl,r1⟩
theorem vals2{x y:V}{us:List Value}(r:Vals [x,y] us):∃u w',us=[u,w']∧RelV x u∧RelV y w':=by
 cases r with
 |cons r1 r2=>
  cases r2 with
  |cons r3 r4=>cases r4;exact⟨_,_,rfl,r1,r3⟩
theorem AE(hc:X.calm=true):jz X (.builtin "max") (fun xs H Q=>∃i j,xs=[.int i, .int j]∧Q (.int (if j>i then j else i)) H):=by
 intro pins s σ H xs us Q I r h;obtain⟨i,j,rfl,q⟩:=h;obtain⟨u,w',rfl,⟨t,rfl⟩,⟨t',rfl⟩⟩:=vals2 r;refine max_two_ints (I.ok.hd hc) fun h' tk k=>⟨_,H,I.kept k,?_,q⟩
 by_cases hj:j>i
 ·rw[Xp hj,Xp hj];exact⟨_,rfl⟩
 ·rw[Xm hj,Xm hj];exact⟨_,rfl⟩
theorem qJ(hc:X.calm=true):jz X (.builtin "min") (fun xs H Q=>∃i j,xs=[.int i, .int j]∧Q (.int (if j<i then j else i)) H):=by
 intro pins s σ H xs us Q I r h;obtain⟨i,j,rfl,q⟩:=h;obtain⟨u,w',rfl,⟨t,rfl⟩,⟨t',rfl⟩⟩:=vals2 r;refine min_two_ints (I.ok.hd hc) fun h' tk k=>⟨_,H,I.kept k,?_,q⟩
 by_cases hj:j<i
 ·rw[Xp hj,Xp hj];exact⟨_,rfl⟩
 ·rw[Xm hj,Xm hj];exact⟨_,rfl⟩
theorem qK:jz X (.type "int") (fun xs H Q=>(∃i,xs=[.int i]∧Q (.int i) H)∨∃k,xs=[.bl k]∧Q (.int (if k then 1 else 0)) H):=by
 intro pins s σ H xs us Q I r h;rcases h with⟨i,rfl,q⟩|⟨k,rfl,q⟩
 ·obtain⟨u,rfl,t,rfl⟩:=vals1 r;exact call_int_int ⟨.int i,H,I,⟨_,rfl⟩,q⟩
 ·obtain⟨u,rfl,r1⟩:=vals1 r;cases r1;exact call_int_bool ⟨.int (if k then 1 else 0),H,I.tok _,⟨_,rfl⟩,q⟩
end
structure X_(h:Heap)(x dx C:Addr)(mA:Str→Option Value):Prop where
 obj:h.get? x=some (PySem.W.instObj C dx)
 ns:h.Ns1 dx mA
 ne:dx≠x
theorem AF{h:Heap}{dx:Addr}{mA:Str→Option Value}(n:h.Ns1 dx mA):∃od,h.get? dx=some od∧∀name,PySem.W.lookIn name od=some (mA name):=by
 obtain⟨o,es,ep,ho,hd,hk,_,hm⟩:=n;refine⟨o,ho,fun name=>?_⟩;have e:=hm name;unfold nsFind findBy at e;rw[←Array.find?_toList]at e;unfold PySem.W.lookIn;rw[hd];dsimp only;split
 ·rename_i y q
  rw[q]at e;exact congrArg some e
 ·rename_i q
  rw[q]at e;have a:es.toList.any (·.refKey)=false:=by
   rw[List.any_eq_false];intro y hy;obtain⟨z,t,pI⟩:=hk y (Array.mem_toList_iff.mp hy);simp[DictEntry.refKey,pI]
  have a':¬es.toList.any (·.refKey)=true:=by rw[a];exact Bool.false_ne_true
  rw[Xm a'];exact congrArg some e
theorem X_.look{h:Heap}{x dx C:Addr}{mA:Str→Option Value}(I:X_ h x dx C mA):∃od,PySem.W.InstAt h x (PySem.W.instObj C dx) C (some od)∧∀name,PySem.W.lookIn name od=some (mA name):=
 let ⟨od,ho,hl⟩:=AF I.ns
 ⟨od,⟨I.obj,rfl,rfl,ho⟩,hl⟩
section
variable{prog:Program}{w:World}{A:Around}{E:Value→Shared→Prop}{s:Shared}{K:PySem.W.Frag}{x dx C f:Addr}{mA:Str→Option Value}{name:Str}{v:Value}
theorem get_map{expr:Bool}{Q:Value→Shared→Prop}(X:K.In s.heap)(I:X_ s.heap x dx C mA)(hg:PySem.W.plainGet K C name=true)(hh:PySem.W.hasDictIn K C=true)
  (ha:PySem.W.findIn K (.ref C) name=some none) (hv:mA name=some v) (K1:PySem.W.handedIn v=true) (h:Q v {s with toks:=s.toks+1}):
  wpAny Xx A (getAttr (.ref x) name expr) Q E s:=by
 obtain⟨od,J,hl⟩:=I.look;exact PySem.W.get_value X J (PySem.W.plainGet_of hg).1 (PySem.W.findObj_own hh ha rfl (by rw[hl,hv])) K1 h
theorem BR{pl:Sem Bool}{Q:Value×List Value→Shared→Prop}(X:K.In s.heap)(I:X_ s.heap x dx C mA)(hg:PySem.W.plainGet K C name=true)
  (hf:PySem.W.findIn K (.ref C) name=some (some (.ref f))) (ht:PySem.W.isFn K (.ref f)=true) (hv:mA name=none) (h:Q (.ref f,[.ref x]) s):
  wpAny Xx A (getMethod (.ref x) name pl) Q E s:=by
 obtain⟨od,J,hl⟩:=I.look;exact PySem.W.method_fn X J (PySem.W.plainGet_of hg).1 (PySem.W.plainGet_of hg).2 hf (beq_iff_eq.mp ht) (by show(PySem.W.lookIn name od).map (·.isSome)=some false;rw[hl,hv];rfl) h
theorem En{ns:List Str}{Q:Unit→Shared→Prop}(X:K.In s.heap)(I:X_ s.heap x dx C mA)
  (hs:PySem.W.findIn K (.ref C) "__setattr__"=some (some (.builtin "object.__setattr__"))) (hp:PySem.W.plainOver K C=true) (ht:PySem.W.takerIn K C name=some none) (hh:PySem.W.hasDictIn K C=true)
  (hw:PySem.Within mA ns) (hsz:ns.length≤sizeLine)
  (h:∀h',X_ h' x dx C (fun y=>if y=name then some v else mA y)→Heap.SameBut dx s.heap h'→Q () {s with heap:=h',toks:=s.toks+2}):
  wpAny Xx A (setAttr (.ref x) name v) Q E s:=by
 obtain⟨od,J,hl⟩:=I.look;refine PySem.W.set_plain X J hs (PySem.W.osa_open (s:={s with toks:=s.toks+1}) (r:=none) X J hp ht fun b=>?_);obtain⟨cd,hc,JX⟩:=PySem.W.any_some hh;have hx:s.heap.get? x=some ⟨.ref C,some dx, .plain,#[]⟩:=I.obj;refine wpAny_bind (wpAny_pure (wpAny_bind (wpAny_bind (wpAny_loadPart hx (wpAny_bind (PySem.W.Looks.here (s:={s with toks:=s.toks+1}) (PySem.W.looks_clsIn X hc) ?_))))));rw[JX];refine wpAny_pure (a:=some dx) (wpAny_bind (wpAny_pure (wpAny_bind ?_)));refine wpAny_nsSet1 (s:={s with toks:=s.toks+1}) I.ns fun h' wQ HC=>?_
 obtain⟨oD,Wu,Wv,Ts,Tt,Tu⟩:=wQ.count (PySem.Within.cons name v hw);refine wpAny_bind (wpAny_lookBehind Ts (by rw[Tt];exact pastItsLine_dict (Nat.le_trans Tu (by rw[List.length_cons];omega))) ?_);exact wpAny_pure (h _ ⟨(HC.2 _ (Ne.symm I.ne)).trans I.obj,wQ,I.ne⟩ HC)
theorem BS{R:Result→Shared→Prop}{vs:List Value}{kw:List (Str×Value)}(X:K.In s.heap)(hm:PySem.W.makesIn K C=true)
  (hi:PySem.W.findIn K (.ref C) "__init__"=some (some (.ref f))) (hf:PySem.W.typeIn K (.ref f)=some (.type "function"))
  (h:codeAny Xx (A.under (.builtin "type.__call__" ⟨.ref C::vs,kw⟩)) (.call (.ref f) ⟨.ref (s.heap.objs.size+1)::vs,kw⟩) (PySem.W.InitBack (s.heap.objs.size+1) R)
   {s with heap:=(s.heap.push PySem.W.emptyDict).push (PySem.W.instObj C s.heap.objs.size)}):
  codeAny Xx A (.call (.ref C) ⟨vs,kw⟩) R s:=by
 obtain⟨hh,g,d,t,os⟩:=s;exact PySem.W.make_core (PySem.W.makes_of X hm) (PySem.W.looks_findIn X hi) (fun self=>PySem.W.bind_fn X self hf) (.inl rfl) h
end
def bf(f:Str)(v:V):List (Str×V)→List (Str×V)
 |[]=>[(f,v)]
 |(g,x)::r=>if g=f then(g,v)::r else(g,x)::bf f v r
theorem rN(f g:Str)(v:V):∀fs:List (Str×V),(bf f v fs).lookup g=if g=f then some v else fs.lookup g
 |[]=>by
  show List.lookup g [(f,v)]=_;by_cases h:g=f
  ·have hb:(g==f)=true:=beq_iff_eq.mpr h;simp only[List.lookup,hb,Xp h]
  ·have hb:(g==f)=false:=beq_eq_false_iff_ne.mpr h;simp only[List.lookup,hb,Xm h]
 |(k,x)::r=>by
  have ih:=rN f g v r;rw[show bf f v ((k,x)::r)=(if k=f then(k,v)::r else(k,x)::bf f v r)from rfl];by_cases hk:k=f
  ·rw[Xp hk];by_cases h:g=k
   ·have hb:(g==k)=true:=beq_iff_eq.mpr h;simp only[List.lookup,hb,Xp (h.trans hk)]
   ·have hb:(g==k)=false:=beq_eq_false_iff_ne.mpr h;simp only[List.lookup,hb,Xm (fun e:g=f=>h (e.trans hk.symm))]
  ·rw[Xm hk];by_cases h:g=k
   ·have hb:(g==k)=true:=beq_iff_eq.mpr h;simp only[List.lookup,hb,Xm (fun e:g=f=>hk (h.symm.trans e))]
   ·have hb:(g==k)=false:=beq_eq_false_iff_ne.mpr h;simp only[List.lookup,hb];exact ih
theorem qL(f:Str)(v:V):∀fs:List (Str×V),f∈(bf f v fs).map (·.1)∧∀g,g∈fs.map (·.1)→g∈(bf f v fs).map (·.1)
 |[]=>⟨by simp[bf],fun g h=>by simp at h⟩
 |(k,x)::r=>by
  obtain⟨i1,i2⟩:=qL f v r;rw[show bf f v ((k,x)::r)=(if k=f then(k,v)::r else(k,x)::bf f v r)from rfl];by_cases hk:k=f
  ·rw[Xp hk];subst hk;exact⟨XE,fun g h=>by simpa using h⟩
  ·rw[Xm hk];refine⟨?_,fun g h=>?_⟩
   ·rw[List.map_cons];exact List.mem_cons_of_mem _ i1
   ·rw[List.map_cons]at h⊢;rcases List.mem_cons.mp h with e|e
    ·exact List.mem_cons.mpr (.inl e)
    ·exact List.mem_cons_of_mem _ (i2 g e)
theorem aV(f:Str)(v:V):∀fs:List (Str×V),(bf f v fs).length≤fs.length+1
 |[]=>by simp[bf]
 |(k,x)::r=>by
  have ih:=aV f v r;rw[show bf f v ((k,x)::r)=(if k=f then(k,v)::r else(k,x)::bf f v r)from rfl];by_cases hk:k=f
  ·rw[Xp hk,List.length_cons,List.length_cons];omega
  ·rw[Xm hk,List.length_cons,List.length_cons];omega
theorem lz.some_of{v:V}{o:Option Value}(r:lz (some v) o):∃u,o=some u∧RelV v u:=by
 cases o with
 |none=>exact(show False from r).elim
 |some u=>exact⟨u,rfl,r⟩
theorem lz.none_of{o:Option Value}(r:lz none o):o=none:=by
 cases o with
 |none=>rfl
 |some u=>exact(show False from r).elim
theorem AG{v:V}{u:Value}(r:RelV v u):PySem.W.handedIn u=true:=by
 cases v with
 |cI=>cases(show u=Value.none from r);rfl
 |bl b=>cases(show u=Value.bool b from r);rfl
 |int i=>obtain⟨t,e⟩:=(show ∃t,u=Value.int i t from r);cases e;rfl
 |str x=>obtain⟨t,e⟩:=(show ∃t,u=Value.str x t from r);cases e;rfl
 |Ax b=>obtain⟨t,e⟩:=(show ∃t,u=Value.bytes b t from r);cases e;rfl
 |FV b=>obtain⟨t,e⟩:=(show ∃t,u=Value.float b t from r);cases e;rfl
 |ref a=>cases(show u=Value.ref a from r);rfl
 |ty n=>cases(show u=Value.type n from r);rfl
section
variable{P:Program}{w:World}{H H':Hp}{h h':Heap}{a C dx:Addr}{fs Tf:List (Str×V)}
theorem sO(bO:mH P w H h)(e:H a=some (.ins C dx fs)):∃mA,X_ h a dx C mA∧(∀f,lz (fs.lookup f) (mA f))∧PySem.Within mA (fs.map (·.1))∧fs.length≤1000∧H dx=some (.own a):=by
 obtain⟨d,z,ne,ob,mA,n,r,q⟩:=(show cJ P w H h a (.ins C dx fs)from bO a _ e)
 exact⟨mA,⟨ob,n,ne⟩,r,q,z,d⟩
end
structure vE(K:PySem.W.Frag)(C:Addr):Prop where
 pg:PySem.W.plainGet K C Str.empty=true
 hd:PySem.W.hasDictIn K C=true
 po:PySem.W.plainOver K C=true
 sa:PySem.W.findIn K (.ref C) "__setattr__"=some (some (.builtin "object.__setattr__"))
theorem vE.get{K:PySem.W.Frag}{C:Addr}(c:vE K C)(f:Str):PySem.W.plainGet K C f=true:=c.pg
def bQ(K:PySem.W.Frag)(C:Addr)(f:Str):Prop:=PySem.W.findIn K (.ref C) f=some none
theorem bQ.K2{K:PySem.W.Frag}{C:Addr}{f:Str}(n:bQ K C f):PySem.W.takerIn K C f=some none:=by
 unfold PySem.W.takerIn;rw[show PySem.W.findIn K (.ref C) f=some none from n];rfl
structure BU(K:PySem.W.Frag)(C:Addr)(f:Str)(v:V)(u:Value):Prop where
 at_:PySem.W.findIn K (.ref C) f=some (some u)
 rel:RelV v u
 get:PySem.W.specialIn K u "__get__"=some none
 cp:PySem.W.copiedNames.contains f=false
structure Meth(K:PySem.W.Frag)(C:Addr)(m:Str)(f:Addr):Prop where
 at_:PySem.W.findIn K (.ref C) m=some (some (.ref f))
 fn:PySem.W.isFn K (.ref f)=true
 kp:PySem.W.keepIn K (.ref f)=true
section
variable{X:Cx}{pins:List (Addr×Obj)}{σ:St}{H:Hp}{s:Shared}{a C dx:Addr}{fs:List (Str×V)}{f:Str}{v:V}{A:Around}{E:Value→Shared→Prop}
theorem Zi{b:Bool}{Q:Value→Shared→Prop}(I:Inv X pins σ H s)(e:H a=some (.ins C dx fs))(c:vE X.K C)(n:bQ X.K C f)(l:fs.lookup f=some v)
  (h:∀u s',Inv X pins σ H s'→RelV v u→Q u s'):wpAny Xv A (getAttr (.ref a) f b) Q E s:=by
 obtain⟨mA,O,r,_,_,_⟩:=sO I.bO e;obtain⟨u,hu,ru⟩:=lz.some_of (v:=v) (o:=mA f) (by rw[←l];exact r f);exact get_map I.qF O (c.get f) c.hd n hu (AG ru) (h u _ (I.tok _) ru)
theorem oJ{m:Str}{g:Addr}{pl:Sem Bool}{Q:Value×List Value→Shared→Prop}(I:Inv X pins σ H s)(e:H a=some (.ins C dx fs))(c:vE X.K C)(k:Meth X.K C m g)(l:fs.lookup m=none)
  (h:Q (.ref g,[.ref a]) s):wpAny Xv A (getMethod (.ref a) m pl) Q E s:=by
 obtain⟨mA,O,r,_,_,_⟩:=sO I.bO e;have hn:mA m=none:=lz.none_of (by rw[←l];exact r m);exact BR I.qF O (c.get m) k.at_ k.fn hn h
theorem Zx{y:V}{u:Value}{Q:Unit→Shared→Prop}(I:Inv X pins σ H s)(e:H a=some (.ins C dx fs))(c:vE X.K C)(n:bQ X.K C f)(hl:fs.length<1000)(ry:RelV y u)
  (h:∀s',Inv X pins σ (upd H a (.ins C dx (bf f y fs))) s'→Q () s'):wpAny Xv A (setAttr (.ref a) f u) Q E s:=by
 obtain⟨mA,O,r,wi,_,ho⟩:=sO I.bO e;have hz:(fs.map (·.1)).length≤sizeLine:=by rw[List.length_map,sizeLine_eq];omega
 refine En I.qF O c.sa c.po n.K2 c.hd wi hz fun h' O' sb=>h _ ?_
 have hd:∃o,h'.get? dx=some o:=let ⟨o,_,_,e',_⟩:=O'.ns;⟨o,e'⟩
 refine I.write (x:=a) (e:=dx) (by rw[e];exact True.intro) (.inr ho) (fun b q hb z=>(sb.2 b hb).trans z) hd ?_;refine⟨by rw[ai O.ne];exact ho,?_,O.ne,O'.obj,_,O'.ns,fun g=>?_,fun g hg=>?_⟩
 ·have:=aV f y fs;omega
 ·show lz ((bf f y fs).lookup g) (if g=f then some u else mA g);rw[rN];by_cases q:g=f
  ·rw[Xp q,Xp q];exact ry
  ·rw[Xm q,Xm q];exact r g
 ·by_cases q:g=f
  ·rw[q];exact(qL f y fs).1
  ·refine(qL f y fs).2 g (wi g fun z=>hg ?_);show(if g=f then some u else mA g)=none;rw[Xm q];exact z
theorem Inv.made(I:Inv X pins σ H s):Inv X pins σ (upd (upd H s.heap.objs.size (.own (s.heap.objs.size+1))) (s.heap.objs.size+1) (.ins C s.heap.objs.size []))
  {s with heap:=(s.heap.push PySem.W.emptyDict).push (PySem.W.instObj C s.heap.objs.size)}:=by
 have e1:(s.heap.push PySem.W.emptyDict).get? s.heap.objs.size=some PySem.W.emptyDict:=Heap.get?_push_size s.heap rfl;have e2:((s.heap.push PySem.W.emptyDict).push (PySem.W.instObj C s.heap.objs.size)).get? (s.heap.objs.size+1)=some (PySem.W.instObj C s.heap.objs.size):=by
  have:=Heap.get?_push_size (s.heap.push PySem.W.emptyDict) (o:=PySem.W.instObj C s.heap.objs.size) rfl;rwa[Heap.size_push]at this
 have e3:(s.heap.push PySem.W.emptyDict).Ns s.heap.objs.size (fun _=>none):=⟨PySem.W.emptyDict,#[],_,e1,rfl,(fun e he=>absurd he Xy),fun _=>rfl⟩
 have I1:=I.laid (a:=s.heap.objs.size) (o:= .own (s.heap.objs.size+1)) (h':=s.heap.push PySem.W.emptyDict) (t':=s.toks) (fun b u q=>Xo q) (Nat.le_refl _) ⟨_,e1⟩;refine I1.laid (a:=s.heap.objs.size+1) (o:= .ins C s.heap.objs.size []) (t':=s.toks) (fun b u q=>Xo q) (Nat.le_of_eq (Heap.size_push _ _)) ?_;have ne:s.heap.objs.size≠s.heap.objs.size+1:=Nat.ne_of_lt (Nat.lt_succ_self _);refine⟨by rw[ai ne,ae],Nat.zero_le _,ne,e2,fun _=>none,(Heap.Ns1.of_empty e3).at fun o q=>Xo q,fun _=>True.intro,fun y hy=>absurd rfl hy⟩
theorem Eo{prog:Program}{w:World}{env:Env}{e:Expr}{f:Str}{pos:Pos}{s:Shared}{Q:Value→Shared→Prop}(hb:attributeBase e f env (eval e env)=eval e env)
  (h:wpAny Xx A (eval e env) (fun o bW=>wpAny Xx A (getAttr o f true) Q E bW) E s):wpAny Xx A (eval (.Attribute e f pos) env) Q E s:=
 Attribute_any_ h (by rw[arm_eval_Attribute,hb])
end
inductive F8(K:PySem.W.Frag)(f:Str)(x:V)(H1:Hp)(Q:VK):Prop
 |mk (a:Addr) (C:Addr) (dx:Addr) (fs:List (Str×V)) (v:V) (_:x= .ref a) (_:H1 a=some (.ins C dx fs)) (_:vE K C) (_:bQ K C f) (_:fs.lookup f=some v) (_:Q v H1):F8 K f x H1 Q
def K3(K:PySem.W.Frag)(ta:TE)(f:Str):TE:=fun σ H Q=>ta σ H fun x H1=>F8 K f x H1 Q
def K4(K:PySem.W.Frag)(ta tv:TE)(f:Str):TS:=fun D σ H=>tv σ H fun y H1=>ta σ H1 fun x H2=>∃a C dx fs,x= .ref a∧H2 a=some (.ins C dx fs)∧vE K C∧bQ K C f∧fs.length<1000∧
 D.nx σ (upd H2 a (.ins C dx (bf f y fs)))
section
variable{X:Cx}{o e value:Expr}{f:Str}{pos pos' OJ:Pos}{ta tv:TE}
theorem HE(he:PE X e ta)(hb:attributeBase e f X.env (eval e X.env)=eval e X.env):PE X (.Attribute e f pos) (K3 X.K ta f):=by
 intro pins s σ H Q I h;refine Eo hb (cy (he pins s σ H _ I h) fun u s1 ⟨x,H1,I1,rx,a,C,dx,fs,v,ex,ea,c,n,l,q⟩=>?_);subst ex;obtain rfl:u=Value.ref a:=rx;exact Zi I1 ea c n l fun u' s2 I2 ru=>⟨v,H1,I2,ru,q⟩
theorem HF(ha:PE X o ta)(hv:PE X value tv)(hs:swapsWith value (some (.Attribute o f pos')) pos.line X.env=pure false):PS X (.Assign [.Attribute o f pos'] value pos) (K4 X.K ta tv f):=by
 intro pins s σ H D I h;refine plainObj_wpAny_Assign_Attribute (cy (hv pins s σ H _ I h) fun u s1 ⟨y,H1,I1,ry,q⟩=>cy (ha pins s1 σ H1 _ I1 q) fun ov s2 ⟨x,H2,I2,rx,a,C,dx,fs,ex,ea,c,n,l,q2⟩=>?_) hs;subst ex;obtain rfl:ov=Value.ref a:=rx;exact Zx I2 ea c n l ry fun s3 I3=>⟨σ,_,I3,q2⟩
theorem F9{pl:Sem Bool}{m:Str}{apos:Pos}{args:List Expr}{pins:List (Addr×Obj)}{s:Shared}{σ:St}{H:Hp}{Q:Value→Shared→Prop}{te:TE}(he:PE X e te)(I:Inv X pins σ H s)
  (h:te σ H fun x H1=>∃a C dx fs g,x= .ref a∧H1 a=some (.ins C dx fs)∧vE X.K C∧Meth X.K C m g∧fs.lookup m=none∧
   ∀s1,Inv X pins σ H1 s1→wpAny Xv X.A (callWith pos (.ref g) [.ref a] (backTo pos (starEach args X.env)) (backToKw pos (keywordEach [] X.env))) Q X.xe s1)
  (ht:eval (.Call (.Attribute e m apos) args [] pos) X.env=(do
   let ov←eval e X.env
   standAt apos.atName
   let (f,first)←holding [ov] (getMethod ov m pl)
   callWith pos f first (backTo pos (starEach args X.env)) (backToKw pos (keywordEach [] X.env)))):
  wpAny Xv X.A (eval (.Call (.Attribute e m apos) args [] pos) X.env) Q X.xe s:=by
 refine PySem.W.methodCall_KW (pl:=pl) (cy (he pins s σ H _ I h) fun u s1 ⟨x,H1,I1,rx,a,C,dx,fs,g,ex,ea,c,k,l,q⟩=>?_) ht;subst ex;obtain rfl:u=Value.ref a:=rx;exact oJ I1 ea c k l (q s1 I1)
end
section
variable{X:Cx}{pins:List (Addr×Obj)}{σ:St}{H:Hp}{s:Shared}{A:Around}{E:Value→Shared→Prop}{Q:Value→Shared→Prop}{c:Value}{b:Bool}
inductive qM(K:PySem.W.Frag)(H:Hp):V→Value→Prop where
 |cI:qM K H .cI (.type "NoneType")
 |bl (x:Bool):qM K H (.bl x) (.type "bool")
 |int (i:Int):qM K H (.int i) (.type "int")
 |str (x:Str):qM K H (.str x) (.type "str")
 |FV (x:UInt64):qM K H (.FV x) (.type "float")
 |lst {a:Addr} {xs:List V} (e:H a=some (.lst xs)):qM K H (.ref a) (.type "list")
 |sN {a:Addr} {o:Obj} {xs:List V} (e:H a=some (.sN o (.lst xs))):qM K H (.ref a) (.type "list")
 |tup {a:Addr} {xs:List V} (e:H a=some (.tup xs)):qM K H (.ref a) (.type "tuple")
 |dK {a:Addr} {kvs:List (Key×V)} (e:H a=some (.dK kvs)):qM K H (.ref a) (.type "dict")
 |dT {a:Addr} {kvs:List (List Key×V)} (e:H a=some (.dT kvs)):qM K H (.ref a) (.type "dict")
 |ins {a C dx:Addr} {fs:List (Str×V)} (e:H a=some (.ins C dx fs)) (cl:vE K C) (ha:PySem.W.findIn K (.ref C) "__class__"=some (some (.builtin "object.__class__")))
   (hn:PySem.W.specialIn K (.builtin "object.__class__") "__get__"=some (some (.builtin "getset_descriptor.__get__"))) (Q9:PySem.W.takesIn K (.builtin "object.__class__")=some true)
   (hm:PySem.W.mroIn K C (.type "object")=some true):qM K H (.ref a) (.ref C)
theorem AH{x:V}{u t:Value}(I:Inv X pins σ H s)(rx:RelV x u)(ty:qM X.K H x t)(e:PySem.W.kitOne X.K t c=some b)(h:∀tk,Q (.bool b) {s with toks:=tk}):
  wpAny Xv A (call (.builtin "isinstance") [u,c]) Q E s:=by
 cases ty with
 |cI=>cases(show u=Value.none from rx);exact PySem.W.kia_one PySem.W.kitx_none I.qF True.intro e (fun z=>nomatch z) h
 |bl y=>cases(show u=Value.bool y from rx);exact PySem.W.kia_one PySem.W.kitx_bool I.qF True.intro e (fun z=>nomatch z) h
 |int i=>obtain⟨t,q⟩:=(show ∃t,u=Value.int i t from rx);cases q;exact PySem.W.kia_one PySem.W.kitx_int I.qF True.intro e (fun z=>nomatch z) h
 |str y=>obtain⟨t,q⟩:=(show ∃t,u=Value.str y t from rx);cases q;exact PySem.W.kia_one PySem.W.kitx_str I.qF True.intro e (fun z=>nomatch z) h
 |FV y=>obtain⟨t,q⟩:=(show ∃t,u=Value.float y t from rx);cases q;exact PySem.W.kia_one PySem.W.kitx_float I.qF True.intro e (fun z=>nomatch z) h
 |@lst a xs ea=>
  cases(show u=Value.ref a from rx);obtain⟨_,_,n,_,h1⟩:=(show cJ X.prog X.w H s.heap a (.lst xs)from I.bO a _ ea)
  exact PySem.W.kia_one PySem.W.kitx_list I.qF ⟨_,h1,rfl⟩ e (fun z=>nomatch z) h
 |@sN a ob xs ea=>
  cases(show u=Value.ref a from rx);obtain⟨_,_,_,n,_,h1⟩:=(show cJ X.prog X.w H s.heap a (.sN ob (.lst xs))from I.bO a _ ea)
  exact PySem.W.kia_one PySem.W.kitx_list I.qF ⟨_,h1,rfl⟩ e (fun z=>nomatch z) h
 |@tup a xs ea=>
  cases(show u=Value.ref a from rx);obtain⟨_,_,_,p⟩:=(show cJ X.prog X.w H s.heap a (.tup xs)from I.bO a _ ea)
  obtain⟨o,h1,h2,_⟩:=p;exact PySem.W.kia_one PySem.W.kitx_tuple I.qF ⟨o,h1,h2⟩ e (fun z=>nomatch z) h
 |@dK a kvs ea=>
  cases(show u=Value.ref a from rx);obtain⟨_,_,vs,_,p⟩:=(show cJ X.prog X.w H s.heap a (.dK kvs)from I.bO a _ ea)
  obtain⟨o,es,ep,h1,h2,_⟩:=p;exact PySem.W.kia_one PySem.W.kitx_dict I.qF ⟨o,h1,h2.1⟩ e (fun z=>nomatch z) h
 |@dT a kvs ea=>
  cases(show u=Value.ref a from rx);obtain⟨_,_,xs,_,o,es,ep,h1,h2,_⟩:=(show cJ X.prog X.w H s.heap a (.dT kvs)from I.bO a _ ea)
  exact PySem.W.kia_one PySem.W.kitx_dict I.qF ⟨o,h1,h2.1⟩ e (fun z=>nomatch z) h
 |@ins a C dx fs ea cl ha hn Q9 hm=>
  cases(show u=Value.ref a from rx);obtain⟨mA,O,_⟩:=sO I.bO ea;obtain⟨od,J,_⟩:=O.look;exact PySem.W.kia_one (PySem.W.kitx_own (cl.get _) cl.hd ha hn Q9 hm) I.qF J e (fun z=>nomatch z) h
end
structure eK(cm:Bool)(k:Nat)(A:Around):Prop where
 hd:cm=true→A.handled=none
 dp:A.depth+3*k+5<recursionLimit
 un:A.units+16*k+200<cLine
theorem eK.mono{cm:Bool}{j k:Nat}{A:Around}(r:eK cm k A)(h:j≤k):eK cm j A:=⟨r.hd,by have:=r.dp;omega,by have:=r.un;omega⟩
theorem eK.deeper{cm:Bool}{k:Nat}{A:Around}(r:eK cm (k+1) A)(env:Env):eK cm k (A.deeper env):=
 ⟨r.hd,by have:=r.dp;show A.depth+1+3*k+5<_;omega,by have:=r.un;show A.units+3+16*k+200<_;omega⟩
theorem ZN{A:Around}{C:Addr}{us:List Value}{kw:List (Str×Value)}:(A.under (.builtin "type.__call__" ⟨.ref C::us,kw⟩)).depth=A.depth+1:=by
 first|rfl|simp[Around.under,Code.weight,Code.isCreation,Code.isGuard,Code.isCaller,Code.frames,Code.isFrame,guardIds]
theorem Zj{A:Around}{C:Addr}{us:List Value}{kw:List (Str×Value)}:(A.under (.builtin "type.__call__" ⟨.ref C::us,kw⟩)).units=A.units+1:=by
 first|rfl|simp[Around.under,Code.cUnits,Code.frames,Code.isFrame]
theorem eK.make{cm:Bool}{k:Nat}{A:Around}(r:eK cm (k+1) A)(C:Addr)(us:List Value)(kw:List (Str×Value)):eK cm k (A.under (.builtin "type.__call__" ⟨.ref C::us,kw⟩)):=
 ⟨r.hd,by have:=r.dp;rw[ZN];omega,by have:=r.un;rw[Zj];omega⟩
theorem eK.depth{cm:Bool}{k:Nat}{A:Around}(r:eK cm k A):A.depth<recursionLimit:=by have:=r.dp;omega
theorem eK.units{cm:Bool}{k:Nat}{A:Around}(r:eK cm k A):A.units+64<cLine:=by have:=r.un;omega
def BV:TA:=fun _ H Q=>Q [] H
def F_(ta:TE)(tr:TA):TA:=fun σ H Q=>ta σ H fun x H1=>tr σ H1 fun xs H2=>Q (x::xs) H2
section
variable{X:Cx}{e:Expr}{es:List Expr}{te:TE}{t:TA}{pos:Pos}
theorem af:PA X [] BV:=fun _ _ _ _ H Q I h=>Calls.spliced_nil ⟨[],H,I, .nil,h⟩
theorem Ep(ha:PE X e te)(hr:PA X es t)(hs:starEach (e::es) X.env=(false,eval e X.env)::starEach es X.env:=by rfl):PA X (e::es) (F_ te t):=by
 intro pos pins s σ H Q I h;rw[hs];show wpAny _ _ (spliced ((false,eval e X.env)::backTo pos (starEach es X.env))) _ _ s;refine Calls.spliced_cons (cy (ha pins s σ H _ I h) fun u s1 ⟨x,H1,I1,r1,q1⟩=>?_);exact cy (hr pos pins s1 σ H1 _ I1 q1) fun us s2 ⟨xs,H2,I2,r2,q2⟩=>⟨x::xs,H2,I2, .cons r1 r2,q2⟩
def OL(t:TA):TE:=fun σ H Q=>t σ H fun xs H1=>xs.length≤sizeLine∧∀p,H1 p=none→Q (.ref p) (upd H1 p (.tup xs))
def OM(t:TA):TE:=fun σ H Q=>t σ H fun xs H1=>xs.length≤sizeLine∧∀p,H1 p=none→Q (.ref p) (upd H1 p (.lst xs))
theorem fB{x1}(h:PA X es t):PE X (.Tuple es x1 pos) (OL t):=by
 intro pins s σ H Q I hq;refine wpAny_Tuple_spliced (cy (h pos pins s σ H _ I hq) fun us s1 ⟨xs,H1,I1,r,z,q⟩=>⟨by rw[←r.length];exact z,?_⟩);have hf:H1 s1.heap.objs.size=none:=I1.bO.fresh (Nat.le_refl _);refine⟨.ref s1.heap.objs.size,upd H1 s1.heap.objs.size (.tup xs),I1.laid (t':=s1.toks) (fun b u e=>Xo e) (Nat.le_refl _) ?_,rfl,q _ hf⟩;exact⟨z,us,r,⟨_,Heap.get?_push_size _ rfl,rfl,_,rfl⟩⟩
theorem bR(h:PA X es t):PE X (.List es pos) (OM t):=by
 intro pins s σ H Q I hq;refine wpAny_List_spliced (cy (h pos pins s σ H _ I hq) fun us s1 ⟨xs,H1,I1,r,z,q⟩=>⟨by rw[←r.length];exact z,?_⟩);have hf:H1 s1.heap.objs.size=none:=I1.bO.fresh (Nat.le_refl _);refine⟨.ref s1.heap.objs.size,upd H1 s1.heap.objs.size (.lst xs),I1.laid (t':=s1.toks) (fun b u e=>Xo e) (Nat.le_refl _) ?_,rfl,q _ hf⟩;exact⟨z,us,0,r,Heap.get?_push_size _ rfl⟩
end
abbrev Sp:=List V→Hp→VK→XK→Prop
abbrev BX:=List Env→Hp→Shared→XK→Value→Shared→Prop
structure XZ(P:Program)(w:World)(K:PySem.W.Frag)(mg:Str→Option Value)(base:Heap)(A:Around)(outer:List Env)(s:Shared)(H:Hp):Prop where
 frames:A.frames=some outer
 mod:Mod K mg base
 bs:∀b o,base.get? b=some o→s.heap.get? b=some o∧H b=none
 Hi:base.objs.size≤s.heap.objs.size
 uo:s.heap.FunFrames base outer
 Kz:∀b∈pB outer,H b=none
 bO:mH P w H s.heap
 bare:AllBare s.gens
def CE(outer:List Env)(P:Program)(w:World)(H:Hp)(s:Shared)(Q:VK)(u:Value)(s':Shared):Prop:=
 ∃v H',s'.os=s.os∧AllBare s'.gens∧Un (pB outer) [] H H' s.heap s'.heap∧mH P w H' s'.heap∧RelV v u∧Q v H'
def CR(CX:BX)(outer:List Env)(P:Program)(w:World)(H:Hp)(s:Shared)(Q:VK)(E:XK)(r:Result)(s':Shared):Prop:=
 match r with
 | .ok (.ret u)=>CE outer P w H s Q u s'
 | .ok _=>False
 | .error e=>CX outer H s E e s'
structure a8(P:Program)(w:World)(K:PySem.W.Frag)(mg:Str→Option Value)(base:Heap)(CX:BX)(cm:Bool)(k:Nat)(f:Addr)(fd:FuncData)(ps:List Str)(sp:Sp):Prop where
 len:∀vs H Q E,sp vs H Q E→vs.length=ps.length
 run:∀(A:Around)(outer:List Env)(s:Shared)(H:Hp)(args:Args)(us:List Value)(vs:List V)(Q:VK)(E:XK),eK cm k A→XZ P w K mg base A outer s H→BindsTo s fd args (ps.zip us)→Vals vs us→sp vs H Q E→
  codeAny (model P w) A (.call (.ref f) args) (CR CX outer P w H s Q E) s
theorem XZ.make{P:Program}{w:World}{K:PySem.W.Frag}{mg:Str→Option Value}{base:Heap}{A:Around}{outer:List Env}{s:Shared}{H:Hp}(e:XZ P w K mg base A outer s H)(C:Addr)(us:List Value)(kw:List (Str×Value)):
  XZ P w K mg base (A.under (.builtin "type.__call__" ⟨.ref C::us,kw⟩)) outer s H:=⟨by first|exact e.frames|(simpa[Around.under,Code.envs,Code.isFrame,pushEnvs]using e.frames),e.mod,e.bs,e.Hi,e.uo,e.Kz,e.bO,e.bare⟩
section
variable{X:Cx}{pins:List (Addr×Obj)}{σ:St}{H:Hp}{s s':Shared}
theorem Inv.HH(I:Inv X pins σ H s):XZ X.prog X.w X.K X.mg X.base X.A X.stack s H:=
 ⟨I.ok.frames,I.ok.mod,I.bs,Nat.le_trans I.ok.Hi I.sz,I.stack,I.vB,I.bO,I.bare⟩
theorem Inv.after{Q:VK}{u:Value}(I:Inv X pins σ H s)(h:CE X.stack X.prog X.w H s Q u s'):EP X pins σ Q u s':=by
 obtain⟨v,H',os,bare,un,bO,r,q⟩:=h;obtain⟨hh,g,d,t,Tv⟩:=s';obtain rfl:Tv=s.os:=os;exact⟨v,H',I.call (h':=hh) (g':=g) (d':=d) (t':=t) (ch:=[]) un bO bare (fun b z=>absurd z Xy),r,q⟩
end
def F'(sp:Sp)(nL:List V)(E:St→XK)(t:TA):TE:=fun σ H Q=>t σ H fun vs H1=>sp (vs++nL) H1 Q (E σ)
def YE(C:Addr)(m:Str)(sp:Sp)(nL:List V)(E:St→XK)(ta:TE)(t:TA):TE:=fun σ H Q=>ta σ H fun x H1=>∃a dx fs,x= .ref a∧H1 a=some (.ins C dx fs)∧fs.lookup m=none∧
 t σ H1 fun vs H2=>sp (x::(vs++nL)) H2 Q (E σ)
def Y7(C:Addr)(sp:Sp)(nL:List V)(E:St→XK)(t:TA):TE:=fun σ H Q=>t σ H fun vs H1=>∀x dx,H1 x=none→H1 dx=none→dx≠x→
 sp (.ref x::(vs++nL)) (upd (upd H1 dx (.own x)) x (.ins C dx [])) (fun v H2=>v= .cI∧Q (.ref x) H2) (E σ)
def Binds(K:PySem.W.Frag)(fd:FuncData)(ps:List Str)(ds:List Value):Prop:=
 ∀(s:Shared)(us:List Value),K.In s.heap→(us++ds).length=ps.length→BindsTo s fd ⟨us,[]⟩ (ps.zip (us++ds))
theorem Binds.all{K:PySem.W.Frag}{fd:FuncData}{ps:List Str}(h:∀us:List Value,us.length=ps.length→bindArgs fd ⟨us,[]⟩=pure (ps.zip us)):Binds K fd ps []:=fun s us _ hl=>by
 rw[List.append_nil]at hl⊢;exact .of_eq (h us hl)
def Passes(CX:BX)(X:Cx)(E:St→XK):Prop:=∀(pins:List (Addr×Obj))(σ:St)(H:Hp)(s:Shared)(e:Value)(s':Shared),Inv X pins σ H s→CX X.stack H s (E σ) e s'→X.xe e s'
section
variable{X:Cx}{CX:BX}{cm:Bool}{k:Nat}{f C:Addr}{fd:FuncData}{ps:List Str}{sp:Sp}{nL:List V}{ds:List Value}{E:St→XK}{x m:Str}{p pos apos:Pos}{e o:Expr}{es:List Expr}{ta:TE}{t:TA}
theorem YO{pins:List (Addr×Obj)}{σ:St}{H:Hp}{s:Shared}{Q:VK}{us:List Value}{vs:List V}(F:a8 X.prog X.w X.K X.mg X.base CX cm k f fd ps sp)(hr:eK cm k X.A)(hb:Binds X.K fd ps ds)(hd:Vals nL ds)(hx:Passes CX X E)
  (I:Inv X pins σ H s) (r:Vals vs us) (h:sp (vs++nL) H Q (E σ)):wpAny Xv X.A (call (.ref f) us) (EP X pins σ Q) X.xe s:=by
 have r2:Vals (vs++nL) (us++ds):=r.append hd;have hl:(us++ds).length=ps.length:=by rw[←r2.length];exact F.len _ _ _ _ h
 refine wpAny_call (codeAny_mono (F.run X.A X.stack s H ⟨us,[]⟩ (us++ds) (vs++nL) Q (E σ) hr I.HH (hb s us I.qF hl) r2 h) fun r s' hq=>?_);cases r with
 |error e=>exact hx pins σ H s e s' I hq
 |ok fl=>
  cases fl with
  |ret u=>exact I.after hq
  |next=>exact False.elim hq
  |brk=>exact False.elim hq
  |cont=>exact False.elim hq
theorem Es(F:a8 X.prog X.w X.K X.mg X.base CX cm k f fd ps sp)(hr:eK cm k X.A)(hg:Gl X x)(hm:X.mg x=some (.ref f))(hk:PySem.W.keepIn X.K (.ref f)=true)(hb:Binds X.K fd ps ds)(hd:Vals nL ds)(hx:Passes CX X E)
  (ha:PA X (e::es) t) (vF:(x==("__debug__":Str))=false:=by decide) (he:starEach (e::es) X.env=(false,eval e X.env)::starEach es X.env:=by rfl) (rO:(backTo pos (starEach es X.env)).any (·.1)=false:=by rfl):
  PE X (.Call (.Name x p) (e::es) [] pos) (F' sp nL E t):=by
 intro pins s σ H Q I h;refine wpAny_Call_Name_kw (pE I hg hm ?_ vF);refine PySem.W.callWith_K (h₀:=X.base) I.ok.mod.JW hk (cy (ha pos pins s σ H _ I h) fun us s1 ⟨vs,H1,I1,r,q⟩=>⟨I1.qF,?_⟩) he rO;exact YO F hr hb hd hx I1 r q
theorem Et{pl:Sem Bool}(he:PE X o ta)(c:vE X.K C)(hm:Meth X.K C m f)(F:a8 X.prog X.w X.K X.mg X.base CX cm k f fd ps sp)(hr:eK cm k X.A)(hb:Binds X.K fd ps ds)(hd:Vals nL ds)(hx:Passes CX X E)(ha:PA X (e::es) t)
  (uR:starEach (e::es) X.env=(false,eval e X.env)::starEach es X.env:=by rfl) (rO:(backTo pos (starEach es X.env)).any (·.1)=false:=by rfl)
  (ht:eval (.Call (.Attribute o m apos) (e::es) [] pos) X.env=(do
   let ov←eval o X.env
   standAt apos.atName
   let (f,first)←holding [ov] (getMethod ov m pl)
   callWith pos f first (backTo pos (starEach (e::es) X.env)) (backToKw pos (keywordEach [] X.env))):=by rfl):
  PE X (.Call (.Attribute o m apos) (e::es) [] pos) (YE C m sp nL E ta t):=by
 intro pins s σ H Q I h;refine PySem.W.methodCall_KW (pl:=pl) (cy (he pins s σ H _ I h) fun u s1 ⟨x,H1,I1,rx,a,dx,fs,ex,ea,l,q⟩=>?_) ht;subst ex;obtain rfl:u=Value.ref a:=rx;refine oJ I1 ea c hm l ?_;refine PySem.W.callWith_K (first:=[.ref a]) (h₀:=X.base) I.ok.mod.JW hm.kp (cy (ha pos pins s1 σ H1 _ I1 q) fun us s2 ⟨vs,H2,I2,r,q2⟩=>⟨I2.qF,?_⟩) uR rO;exact YO (us:= .ref a::us) (vs:= .ref a::vs) F hr hb hd hx I2 (.cons rfl r) q2
theorem BY{pl:Sem Bool}(he:PE X o ta)(c:vE X.K C)(hm:Meth X.K C m f)(F:a8 X.prog X.w X.K X.mg X.base CX cm k f fd ps sp)(hr:eK cm k X.A)(hb:Binds X.K fd ps ds)(hd:Vals nL ds)(hx:Passes CX X E)
  (ht:eval (.Call (.Attribute o m apos) [] [] pos) X.env=(do
   let ov←eval o X.env
   standAt apos.atName
   let (f,first)←holding [ov] (getMethod ov m pl)
   callWith pos f first (backTo pos (starEach [] X.env)) (backToKw pos (keywordEach [] X.env))):=by rfl):
  PE X (.Call (.Attribute o m apos) [] [] pos) (YE C m sp nL E ta BV):=by
 intro pins s σ H Q I h;refine PySem.W.methodCall_KW (pl:=pl) (cy (he pins s σ H _ I h) fun u s1 ⟨x,H1,I1,rx,a,dx,fs,ex,ea,l,q⟩=>?_) ht;subst ex;obtain rfl:u=Value.ref a:=rx;refine oJ I1 ea c hm l ?_;exact PySem.W.callWith_K0 (first:=[.ref a]) I1.qF hm.kp (YO (us:=[.ref a]) (vs:=[.ref a]) F hr hb hd hx I1 (.cons rfl .nil) q)
structure Mk(K:PySem.W.Frag)(C f:Addr):Prop where
 makes:PySem.W.makesIn K C=true
 init:PySem.W.findIn K (.ref C) "__init__"=some (some (.ref f))
 fn:PySem.W.isFn K (.ref f)=true
 kp:PySem.W.keepIn K (.ref C)=true
theorem Yc{pins:List (Addr×Obj)}{σ:St}{H:Hp}{s:Shared}{Q:VK}{us:List Value}{vs:List V}(M:Mk X.K C f)(F:a8 X.prog X.w X.K X.mg X.base CX cm k f fd ps sp)(hr:eK cm (k+1) X.A)(hb:Binds X.K fd ps ds)(hd:Vals nL ds)
  (hx:Passes CX X E) (I:Inv X pins σ H s) (r:Vals vs us)
  (h:∀x dx,H x=none→H dx=none→dx≠x→sp (.ref x::(vs++nL)) (upd (upd H dx (.own x)) x (.ins C dx [])) (fun v H2=>v= .cI∧Q (.ref x) H2) (E σ)):
  wpAny Xv X.A (call (.ref C) us) (EP X pins σ Q) X.xe s:=by
 have hq:=h (s.heap.objs.size+1) s.heap.objs.size (I.bO.fresh (Nat.le_succ _)) (I.bO.fresh (Nat.le_refl _)) (Nat.ne_of_lt (Nat.lt_succ_self _));have I2:=Inv.made (C:=C) I;have r2:Vals (V.ref (s.heap.objs.size+1)::(vs++nL)) (Value.ref (s.heap.objs.size+1)::(us++ds)):= .cons rfl (r.append hd);have hl:(Value.ref (s.heap.objs.size+1)::us++ds).length=ps.length:=by
  have e:=r2.length;rw[F.len _ _ _ _ hq]at e;exact e.symm
 refine wpAny_call (BS (f:=f) I.qF M.makes M.init (beq_iff_eq.mp M.fn) (codeAny_mono (F.run _ X.stack _ _ ⟨Value.ref (s.heap.objs.size+1)::us,[]⟩ (Value.ref (s.heap.objs.size+1)::(us++ds)) _ _ (E σ) (hr.make C us [])
  (I2.HH.make C us []) (hb _ (Value.ref (s.heap.objs.size+1)::us) I2.qF hl) r2 hq) fun r s' K5=>?_))
 cases r with
 |error e=>exact hx pins σ _ _ e s' I2 K5
 |ok fl=>
  cases fl with
  |ret u=>
   obtain⟨v,H',I3,rv,ev,q3⟩:=I2.after K5;subst ev;exact⟨rv,⟨V.ref (s.heap.objs.size+1),H',I3,rfl,q3⟩⟩
  |next=>exact False.elim K5
  |brk=>exact False.elim K5
  |cont=>exact False.elim K5
theorem Eu(M:Mk X.K C f)(F:a8 X.prog X.w X.K X.mg X.base CX cm k f fd ps sp)(hr:eK cm (k+1) X.A)(hg:Gl X x)(hm:X.mg x=some (.ref C))(hb:Binds X.K fd ps ds)(hd:Vals nL ds)(hx:Passes CX X E)
  (ha:PA X (e::es) t) (vF:(x==("__debug__":Str))=false:=by decide) (he:starEach (e::es) X.env=(false,eval e X.env)::starEach es X.env:=by rfl) (rO:(backTo pos (starEach es X.env)).any (·.1)=false:=by rfl):
  PE X (.Call (.Name x p) (e::es) [] pos) (Y7 C sp nL E t):=by
 intro pins s σ H Q I h;refine wpAny_Call_Name_kw (pE I hg hm ?_ vF);refine PySem.W.callWith_K (h₀:=X.base) I.ok.mod.JW M.kp (cy (ha pos pins s σ H _ I h) fun us s1 ⟨vs,H1,I1,r,q⟩=>⟨I1.qF,?_⟩) he rO;exact Yc M F hr hb hd hx I1 r q
theorem B0(M:Mk X.K C f)(F:a8 X.prog X.w X.K X.mg X.base CX cm k f fd ps sp)(hr:eK cm (k+1) X.A)(hg:Gl X x)(hm:X.mg x=some (.ref C))(hb:Binds X.K fd ps ds)(hd:Vals nL ds)(hx:Passes CX X E)
  (vF:(x==("__debug__":Str))=false:=by decide):PE X (.Call (.Name x p) [] [] pos) (Y7 C sp nL E BV):=by
 intro pins s σ H Q I h;refine wpAny_Call_Name_kw (pE I hg hm ?_ vF);exact PySem.W.callWith_K0 I.qF M.kp (Yc (us:=[]) M F hr hb hd hx I .nil h)
end
section
variable{X:Cx}{CX:BX}{cm:Bool}{k:Nat}{f C:Addr}{fd:FuncData}{ps ks:List Str}{sp:Sp}{E:St→XK}{x m:Str}{p pos apos Tw:Pos}{e o:Expr}{es:List Expr}{Ww:List Keyword}{te ta:TE}{t tk:TA}{nm:Option Str}
variable{g:List Value→List Value→List Value}{gV:List V→List V→List V}
end
structure aJ(N P:List Str)(sc:Scope):Prop where
 kind:sc.kind= .function
 co:sc.isCoroutine=false
 gen:sc.isGenerator=false
 nd:N.Nodup
 pre:N.take P.length=P
 par:∀x∈P,sc.names.lookup x=some .local∨sc.names.lookup x=some .cell
 HI:∀y∈sc.names,y.2≠ .free
theorem uS{kindOf:Str→Option NameKind}{x:Str}:∀{binds:List (Str×Value)}{m:Str→Option Value},(∀v,(x,v)∉binds)→bindL kindOf binds m x=m x
 |[],_,_=>rfl
 |(n,v)::r,m,h=>by
  unfold bindL;rw[uS fun w hw=>h w (List.mem_cons_of_mem _ hw)];split
  ·have:x≠n:=by rintro rfl;exact h v List.mem_cons_self
   simp[this]
  ·rfl
theorem uT{kindOf:Str→Option NameKind}{x:Str}:∀{binds:List (Str×Value)}{m:Str→Option Value},(∀v,(x,v)∉binds)→bindC kindOf binds m x=m x
 |[],_,_=>rfl
 |(n,v)::r,m,h=>by
  unfold bindC;rw[uT fun w hw=>h w (List.mem_cons_of_mem _ hw)];split
  ·rfl
  ·have:x≠n:=by rintro rfl;exact h v List.mem_cons_self
   simp[this]
theorem uU{kindOf:Str→Option NameKind}{x:Str}{v:Value}:∀{P:List Str}{vs:List Value}{i:Nat}{m:Str→Option Value},P.Nodup→P[i]?=some x→vs[i]?=some v→kindOf x=some .local→
  bindL kindOf (P.zip vs) m x=some v
 |[],_,_,_,_,h,_,_=>by simp at h
 | _::_,[],_,_,_,_,h,_=>by simp at h
 |p::P,w::vs,0,m,nd,h1,h2,hk=>by
  simp at h1 h2;subst h1;subst h2;show bindL kindOf ((p,w)::P.zip vs) m p=_;unfold bindL;rw[uS fun v hv=>(List.nodup_cons.mp nd).1 (List.of_mem_zip hv).1,Xp hk];simp
 |p::P,w::vs,i+1,m,nd,h1,h2,hk=>by
  show bindL kindOf ((p,w)::P.zip vs) m x=_;unfold bindL;exact uU (i:=i) (List.nodup_cons.mp nd).2 (by simpa using h1) (by simpa using h2) hk
theorem uV{kindOf:Str→Option NameKind}{x:Str}{v:Value}:∀{P:List Str}{vs:List Value}{i:Nat}{m:Str→Option Value},P.Nodup→P[i]?=some x→vs[i]?=some v→kindOf x≠some .local→
  bindC kindOf (P.zip vs) m x=some v
 |[],_,_,_,_,h,_,_=>by simp at h
 | _::_,[],_,_,_,_,h,_=>by simp at h
 |p::P,w::vs,0,m,nd,h1,h2,hk=>by
  simp at h1 h2;subst h1;subst h2;show bindC kindOf ((p,w)::P.zip vs) m p=_;unfold bindC;rw[uT fun v hv=>(List.nodup_cons.mp nd).1 (List.of_mem_zip hv).1,Xm hk];simp
 |p::P,w::vs,i+1,m,nd,h1,h2,hk=>by
  show bindC kindOf ((p,w)::P.zip vs) m x=_;unfold bindC;exact uV (i:=i) (List.nodup_cons.mp nd).2 (by simpa using h1) (by simpa using h2) hk
def start(N:List Str)(vs:List V):St:=vs.map some++List.replicate (N.length-vs.length) none
def XW(CX:BX)(cm:Bool)(P:Program)(w:World)(K:PySem.W.Frag)(mg:Str→Option Value)(base:Heap)(N:List Str)(qual:Str)(scope:Scope)(f:Addr)(cd:Value)(A:Around)(outer:List Env)(s:Shared)(H:Hp)(E:XK):Cx where
 prog:=P
 w:=w
 K:=K
 mg:=mg
 base:=base
 A:=A.deeper (envOfC qual scope s.heap.objs.size f cd)
 N:=N
 de:=s
 eL:=H
 env:=envOfC qual scope s.heap.objs.size f cd
 outer:=outer
 stack:=envOfC qual scope s.heap.objs.size f cd::outer
 ex:=[]
 calm:=cm
 fn:=fun _=>true
 pn:=[]
 xe:=fun e s'=>wpAny (model P w) (A.deeper (envOfC qual scope s.heap.objs.size f cd)) (leaving (envOfC qual scope s.heap.objs.size f cd) e) (fun _ vG=>CX outer H s E e vG) (fun e' vG=>CX outer H s E e' vG) s'
theorem Z9{sc:Scope}{n:Nat}{x:Str}(h:sc.names.lookup x=some .cell):∃c,(cellsFrom n sc.names []).lookup x=some c:=by
 have q:=PySem.W.cellsFrom_some sc.names n [] (.inl h);exact Option.isSome_iff_exists.mp q
theorem AI{CX:BX}{cm:Bool}{P:Program}{w:World}{K:PySem.W.Frag}{mg:Str→Option Value}{base:Heap}{N ps:List Str}{qual:Str}{scope:Scope}{f:Addr}{cd:Value}{A:Around}{outer:List Env}{s s1:Shared}{H:Hp}{E:XK}{us:List Value}{vs:List V}
  (S:aJ N ps scope) (hd:cm=true→A.handled=none) (e0:XZ P w K mg base A outer s H) (hl:vs.length=ps.length) (r:Vals vs us)
  (x:InCallC s s.heap.objs.size (bindL (envOfC qual scope s.heap.objs.size f cd).kindOf (ps.zip us) fun _=>none) (cellsFrom (s.heap.objs.size+1) scope.names []) (bindC (envOfC qual scope s.heap.objs.size f cd).kindOf (ps.zip us) fun _=>none) s1):
  Inv (XW CX cm P w K mg base N qual scope f cd A outer s H E) [] (start N vs) H s1:=by
 have rO:ps.length≤N.length:=by have:=congrArg List.length S.pre;rw[List.length_take]at this;omega
 obtain⟨h1,tk,rfl,hk⟩:=x.done;have K6:∀b:Addr,b∉(XW CX cm P w K mg base N qual scope f cd A outer s H E).ex:=fun b z=>absurd (show b∈([]:List Addr)from z) (XE)
 refine⟨⟨e0.mod,S.kind,rfl,rfl,Nat.le_refl _,fun y z c h1 h2=>?_,fun y hy=>?_,fun y c _ h=>?_,fun z=>hd z,Around.frames_deeper e0.frames, .inr ⟨rfl,rfl⟩,fun b z=>absurd z (K6 b),e0.bs,e0.Hi,fun b _ _=>K6 b,fun b z=>absurd z (K6 b),e0.uo,e0.Kz⟩,
  rfl,e0.bare,Un.kept hk,⟨_,x.toInCall.ns,fun i y v h1 h2 h3=>?_⟩,fun y c h=>⟨_,x.cell y c h⟩,e0.bO.fresh (Nat.le_refl _),fun y c h=>?_,fun p hp=>absurd (show p∈([]:List (Addr×Obj))from hp) (XE),e0.bO.kept hk,?_⟩
 ·exact name_of_addr x.apart (PySem.mem_of_lookup h1) (PySem.mem_of_lookup h2)
 ·have hy:scope.names.lookup y=some .cell∨scope.names.lookup y=some .free:=hy;rcases hy with hy|hy
  ·exact Z9 hy
  ·exact absurd rfl (S.HI _ (PySem.mem_of_lookup hy))
 ·exact Nat.le_of_lt (x.above y c (PySem.mem_of_lookup h))
 ·have hi:i<vs.length:=by
   unfold start at h2;by_cases hi:i<vs.length
   ·exact hi
   ·rw[List.getElem?_append_right (by simpa using hi)]at h2;rw[List.getElem?_replicate]at h2;split at h2<;>cases h2
  have ha:vs[i]?=some v:=by
   unfold start at h2;rw[List.getElem?_append_left (by simpa using hi),List.getElem?_map]at h2;cases e:vs[i]? with
   |none=>rw[e]at h2;cases h2
   |some a=>rw[e]at h2;cases h2;rfl
  obtain⟨u,hu,rv⟩:=r.get ha;have hp:ps[i]?=some y:=by
   rw[←S.pre,List.getElem?_take_of_lt Xz];exact h1
  have Q_:ps.Nodup:=by rw[←S.pre];exact S.nd.sublist (List.take_sublist _ _)
  refine⟨u,rv,?_⟩;rcases S.par y (Xj hp)with k|k
  ·exact .inl ⟨k,uU Q_ hp hu k⟩
  ·obtain⟨c,e⟩:=Z9 (n:=s.heap.objs.size+1) k;refine .inr ⟨.inl k,c,e,?_⟩;have q:=x.cell y c e;rw[uV Q_ hp hu (by show scope.names.lookup y≠_;rw[k];decide)]at q;exact q
 ·exact e0.bO.fresh (Nat.le_of_lt (x.above y c (PySem.mem_of_lookup h)))
 ·unfold start;show _=N.length;rw[List.length_append,List.length_map,List.length_replicate];omega
theorem Ga{CX:BX}{cm:Bool}{P:Program}{w:World}{K:PySem.W.Frag}{mg:Str→Option Value}{base:Heap}{k:Nat}{f:Addr}{name qual:Str}{params:Arguments}{body:List Stmt}{scope:Scope}{dV kV doc pm cj ct oc:Value}{an od:Option Addr}
  {XS:Array (Option Value)} {N ps:List Str} {sp:Sp} (lk:K.lookup f=some ⟨oc,od, .func (PySem.W.fnOf name qual params body scope dV kV doc pm an cj ct),XS⟩) (AA:PySem.W.codeIn K cj qual=true) (S:aJ N ps scope)
  (len:∀vs H Q E,sp vs H Q E→vs.length=ps.length)
  (Y5:∀(A:Around)(outer:List Env)(s:Shared)(H:Hp)(vs:List V)(Q:VK)(E:XK),eK cm k (A.deeper (envOfC qual scope s.heap.objs.size f cj))→sp vs H Q E→
   ∃t,Az (XW CX cm P w K mg base N qual scope f cj A outer s H E) body t∧t {nx:=fun _ H'=>Q .cI H',rt:=Q} (start N vs) H):
  a8 P w K mg base CX cm (k+1) f (PySem.W.fnOf name qual params body scope dV kV doc pm an cj ct) ps sp:=by
 refine⟨len,fun A outer s H args us vs Q E hr e0 hb r D0=>?_⟩;have hl:=len _ _ _ _ D0;have KX:K.In s.heap:=e0.mod.JW.keeps fun b o e=>(e0.bs b o e).1
 have lim:s.heap.NoLimit:=e0.mod.nolimit.keeps fun b o e=>(e0.bs b o e).1
 have K7:∀y∈ps.zip us,scope.names.lookup y.1=some .local∨(scope.names.lookup y.1=some .cell∧((cellsFrom (s.heap.objs.size+1) scope.names []).lookup y.1).isSome=true):=fun⟨n,v⟩ hy=>by
  rcases S.par n (List.of_mem_zip hy).1 with q|q
  ·exact .inl q
  ·exact .inr ⟨q,PySem.W.cellsFrom_some _ _ _ (.inl q)⟩
 refine codeAny_call_function hr.depth (KX _ _ lk) rfl S.co S.gen rfl (PySem.W.codeRec_of KX AA) (hb _ _ _ _ ?_);refine wpAny_newFunctionEnv_cells S.kind K7 fun env he s1 x=>?_
 subst he;refine⟨lim.keeps x.toInCall.keep,codeAny_func ?_⟩;obtain⟨t,ht,hq⟩:=Y5 A outer s H vs Q E (hr.deeper _) D0;have I:Inv (XW CX cm P w K mg base N qual scope f cj A outer s H E) [] (start N vs) H s1:=AI S hr.hd e0 hl r x;refine wpAny_mono (ht [] s1 (start N vs) H _ I hq) (fun fl s' hs=>?_) fun e s' hs=>hs
 have fin:∀{bF:St}{H':Hp}{v:V}{u:Value},Inv (XW CX cm P w K mg base N qual scope f cj A outer s H E) [] bF H' s'→RelV v u→Q v H'→CE outer P w H s Q u s':=
  fun{bF H' v u} J rv q=>⟨v,H',J.os,J.bare,J.base,J.bO,rv,q⟩
 cases fl with
 |ret u=>
  obtain⟨v,bF,H',J,rv,q⟩:=hs;exact fin J rv q
 |next=>
  obtain⟨bF,H',J,q⟩:=hs;exact fin (v:=V.cI) (u:=Value.none) J rfl q
 |brk=>
  obtain⟨_,_,_,q⟩:=hs;exact False.elim q
 |cont=>
  obtain⟨_,_,_,q⟩:=hs;exact False.elim q
section
variable{X:Cx}{x:Str}{p pos:Pos}{e:Expr}{es:List Expr}{t:TA}{id T:String}{r:List V→Hp→VK→Prop}
def Ra(r:List V→Hp→VK→Prop)(t:TA):TE:=fun σ H Q=>t σ H fun vs H1=>r vs H1 Q
theorem aT(hc:jz X (.builtin id) r)(hg:Gl X x)(hm:X.mg x=none)(hv:bootBuiltins x=some (.builtin id))(ha:PA X (e::es) t)(hn:x≠"__name__":=by decide)(vF:(x==("__debug__":Str))=false:=by decide)
  (he:starEach (e::es) X.env=(false,eval e X.env)::starEach es X.env:=by rfl) (rO:(backTo pos (starEach es X.env)).any (·.1)=false:=by rfl):PE X (.Call (.Name x p) (e::es) [] pos) (Ra r t):=by
 intro pins s σ H Q I h;refine wpAny_Call_Name_kw (mI I hg hm hv ?_ hn vF);exact PyProof.Rows.callWith_builtin1 (cy (ha pos pins s σ H _ I h) fun us s1 ⟨vs,H1,I1,r1,q1⟩=>hc pins s1 σ H1 vs us Q I1 r1 q1) he rO
theorem hG(hc:jz X (.type T) r)(hg:Gl X x)(hm:X.mg x=none)(hv:bootBuiltins x=some (.type T))(ha:PA X (e::es) t)(hn:x≠"__name__":=by decide)(vF:(x==("__debug__":Str))=false:=by decide)
  (he:starEach (e::es) X.env=(false,eval e X.env)::starEach es X.env:=by rfl) (rO:(backTo pos (starEach es X.env)).any (·.1)=false:=by rfl):PE X (.Call (.Name x p) (e::es) [] pos) (Ra r t):=by
 intro pins s σ H Q I h;refine wpAny_Call_Name_kw (mI I hg hm hv ?_ hn vF);exact PyProof.Rows.callWith_type1 (cy (ha pos pins s σ H _ I h) fun us s1 ⟨vs,H1,I1,r1,q1⟩=>hc pins s1 σ H1 vs us Q I1 r1 q1) he rO
end
section
variable{κ:Type}[DecidableEq κ]
def bo(kvs:List (κ×V))(k:κ):Option V:=(kvs.find? fun kv=>decide (kv.1=k)).map (·.2)
def putK(kvs:List (κ×V))(k:κ)(v:V):List (κ×V):=
 if (kvs.any fun kv=>decide (kv.1=k))=true then kvs.map (fun kv=>if kv.1=k then(kv.1,v)else kv)else kvs++[(k,v)]
def jB(kvs:List (κ×V))(k:κ):List (κ×V):=kvs.filter fun kv=>decide (kv.1≠k)
theorem tw{k:κ}:bo ([]:List (κ×V)) k=none:=rfl
theorem cw{p:κ×V}{r:List (κ×V)}{k:κ}(e:p.1=k):bo (p::r) k=some p.2:=by simp[bo,List.find?_cons,e]
theorem cb{p:κ×V}{r:List (κ×V)}{k:κ}(e:¬p.1=k):bo (p::r) k=bo r k:=by simp[bo,List.find?_cons,e]
theorem iO(k:κ):∀kvs:List (κ×V),(kvs.any fun kv=>decide (kv.1=k))=(bo kvs k).isSome
 |[]=>rfl
 |p::r=>by
  rw[List.any_cons];by_cases e:p.1=k
  ·simp only[cw e,decide_eq_true e,Bool.true_or,Option.isSome_some]
  ·rw[cb e,decide_eq_false e,Bool.false_or];exact iO k r
theorem Yq(k j:κ)(y:V):∀kvs:List (κ×V),bo (kvs.map fun kv=>if kv.1=k then(kv.1,y)else kv) j=(bo kvs j).map fun x=>if j=k then y else x
 |[]=>rfl
 |p::r=>by
  have ih:=Yq k j y r;rw[List.map_cons];by_cases h:p.1=k
  ·rw[Xp h];by_cases e:p.1=j
   ·rw[cw (p:=(p.1,y)) e,cw e,Option.map_some,Xp (e.symm.trans h)]
   ·rw[cb (p:=(p.1,y)) e,cb e,ih]
  ·rw[Xm h];by_cases e:p.1=j
   ·rw[cw (p:=p) e,cw e,Option.map_some,Xm (fun z=>h (e.trans z))]
   ·rw[cb (p:=p) e,cb e,ih]
theorem uW(k j:κ)(y:V):∀kvs:List (κ×V),bo kvs k=none→bo (kvs++[(k,y)]) j=if j=k then some y else bo kvs j
 |[],_=>by
  by_cases e:k=j
  ·rw[Xp e.symm];exact cw (p:=(k,y)) e
  ·rw[Xm (fun z=>e z.symm)];exact cb (p:=(k,y)) e
 |p::r,hn=>by
  rw[List.cons_append];have hk:¬p.1=k:=fun z=>by rw[cw z]at hn;cases hn
  rw[cb hk]at hn;have ih:=uW k j y r hn;by_cases e:p.1=j
  ·rw[cw e,cw e,Xm (fun z=>hk (e.trans z))]
  ·rw[cb e,cb e,ih]
theorem jC(kvs:List (κ×V))(k j:κ)(y:V):bo (putK kvs k y) j=if j=k then some y else bo kvs j:=by
 unfold putK;by_cases a:(kvs.any fun kv=>decide (kv.1=k))=true
 ·rw[Xp a,Yq];rw[iO]at a;by_cases e:j=k
  ·obtain⟨x,hx⟩:=Option.isSome_iff_exists.mp a;rw[Xp e,e,hx,Option.map_some,if_pos rfl]
  ·rw[Xm e];cases bo kvs j with
   |none=>rfl
   |some x=>rw[Option.map_some,Xm e]
 ·rw[Xm a];refine uW k j y kvs ?_;rw[iO]at a;cases q:bo kvs k with
  |none=>rfl
  |some x=>rw[q]at a;exact(a rfl).elim
theorem eO(kvs:List (κ×V))(k:κ)(v:V):(putK kvs k v).length≤kvs.length+1:=by
 unfold putK;split
 ·rw[List.length_map];omega
 ·rw[List.length_append,List.length_cons,List.length_nil];omega
theorem tD{kvs:List (κ×V)}{k:κ}(v:V)(h:bo kvs k=none):putK kvs k v=kvs++[(k,v)]:=by
 unfold putK;rw[iO,h];exact if_neg (XC)
theorem lz.kU{o:Option V}{u:Option Value}(r:lz o u):o.isSome=u.isSome:=by
 cases o with
 |none=>cases u with
  |none=>rfl
  |some _=>exact(show False from r).elim
 |some _=>cases u with
  |none=>exact(show False from r).elim
  |some _=>rfl
theorem lz.getD{o:Option V}{u:Option Value}{d:V}{d':Value}(r:lz o u)(rd:RelV d d'):RelV (o.getD d) (u.getD d'):=by
 cases o with
 |none=>cases u with
  |none=>exact rd
  |some _=>exact(show False from r).elim
 |some _=>cases u with
  |none=>exact(show False from r).elim
  |some _=>exact r
theorem KV.val{kvs:List (κ×V)}{vs:List (κ×Value)}(r:KV kvs vs)(k:κ):lz (bo kvs k) (valueAt vs k):=by
 unfold KV at r
 induction r with
 |nil=>exact True.intro
 |@cons p q ps qs h t ih=>
  obtain⟨h1,h2⟩:=h;by_cases e:p.1=k
  ·have e':q.1=k:=h1.symm.trans e;have b:valueAt (q::qs) k=some q.2:=by simp[valueAt,List.find?_cons,e']
   rw[cw e,b];exact h2
  ·have e':¬q.1=k:=fun z=>e (h1.trans z)
   have b:valueAt (q::qs) k=valueAt qs k:=by simp[valueAt,List.find?_cons,e']
   rw[cb e,b];exact ih
theorem KV.any{kvs:List (κ×V)}{vs:List (κ×Value)}(r:KV kvs vs)(k:κ):(kvs.any fun kv=>decide (kv.1=k))=vs.any fun kv=>decide (kv.1=k):=by
 unfold KV at r
 induction r with
 |nil=>rfl
 |cons h t ih=>rw[List.any_cons,List.any_cons,ih,h.1]
theorem KV.HJ{kvs:List (κ×V)}{vs:List (κ×Value)}(r:KV kvs vs)(k:κ){y:V}{u:Value}(ry:RelV y u):
  KV (kvs.map fun kv=>if kv.1=k then(kv.1,y)else kv) (vs.map fun kv=>if kv.1=k then(kv.1,u)else kv):=by
 unfold KV at r⊢
 induction r with
 |nil=>exact .nil
 |@cons p q ps qs h t ih=>
  rw[List.map_cons,List.map_cons];refine .cons ?_ ih;obtain⟨h1,h2⟩:=h;by_cases e:p.1=k
  ·rw[Xp e,Xp (h1.symm.trans e)];exact⟨h1,ry⟩
  ·rw[Xm e,Xm (fun z=>e (h1.trans z))];exact⟨h1,h2⟩
theorem KV.put{kvs:List (κ×V)}{vs:List (κ×Value)}(r:KV kvs vs)(k:κ){y:V}{u:Value}(ry:RelV y u):KV (putK kvs k y) (stored vs k u):=by
 unfold putK stored;rw[r.any k];by_cases e:(vs.any fun kv=>decide (kv.1=k))=true
 ·rw[Xp e,Xp e];exact r.HJ k ry
 ·rw[Xm e,Xm e];exact Paired.snoc r ⟨rfl,ry⟩
theorem KV.length{kvs:List (κ×V)}{vs:List (κ×Value)}(r:KV kvs vs):kvs.length=vs.length:=Paired.length r
theorem Ys(kvs:List (κ×V))(k:κ):(jB kvs k).length≤kvs.length:=List.length_filter_le _ _
end
theorem uX{P:Program}{w:World}{k:Key}{u:Value}(r:RelV (kV k) u):(cS P w).is k u=true:=by
 cases k with
 |inl i=>obtain⟨t,e⟩:=(show ∃t,u=Value.int i t from r);subst e;exact wZ P w i t
 |inr x=>obtain⟨t,e⟩:=(show ∃t,u=Value.str x t from r);subst e;exact w6 P w x t
theorem uY{P:Program}{w:World}:∀{ks:List Key}{us:List Value},Vals (ks.map kV) us→ItemsAre (cS P w) ks us
 |[],_,r=>by rw[List.map_nil]at r;cases r;exact .nil
 |k::ks,_,r=>by
  rw[List.map_cons]at r;cases r with
  |cons h t=>exact .cons (uX h) (uY t)
abbrev KT(H:Hp):List (List Key×V)→List (List Key×Addr×Value)→Prop:=Paired fun p q=>p.1=q.1∧H q.2.1=some (.tup (p.1.map kV))∧RelV p.2 q.2.2
theorem KT.val{H:Hp}{kvs:List (List Key×V)}{xs:List (List Key×Addr×Value)}(r:KT H kvs xs)(k:List Key):lz (bo kvs k) ((atKey xs k).map (·.2)):=by
 induction r with
 |nil=>exact True.intro
 |@cons p q ps qs h t ih=>
  obtain⟨h1,_,h2⟩:=h;by_cases e:p.1=k
  ·have e':q.1=k:=h1.symm.trans e;have b:atKey (q::qs) k=some q.2:=by simp[atKey,List.find?_cons,e']
   rw[cw e,b];exact h2
  ·have e':¬q.1=k:=fun z=>e (h1.trans z)
   have b:atKey (q::qs) k=atKey qs k:=by simp[atKey,List.find?_cons,e']
   rw[cb e,b];exact ih
theorem KT.HJ{H:Hp}{kvs:List (List Key×V)}{xs:List (List Key×Addr×Value)}(r:KT H kvs xs)(k:List Key){y:V}{u:Value}(ry:RelV y u):
  KT H (kvs.map fun kv=>if kv.1=k then(kv.1,y)else kv) (xs.map (putAt k u)):=by
 induction r with
 |nil=>exact .nil
 |@cons p q ps qs h t ih=>
  rw[List.map_cons,List.map_cons];refine .cons ?_ ih;obtain⟨h1,h2,h3⟩:=h;unfold putAt;by_cases e:p.1=k
  ·rw[Xp e,Xp (h1.symm.trans e)];exact⟨h1,h2,ry⟩
  ·rw[Xm e,Xm (fun z=>e (h1.trans z))];exact⟨h1,h2,h3⟩
theorem KT.put{H:Hp}{kvs:List (List Key×V)}{xs:List (List Key×Addr×Value)}(r:KT H kvs xs)(k:List Key){b:Addr}{y:V}{u:Value}(hb:H b=some (.tup (k.map kV)))(ry:RelV y u):
  KT H (putK kvs k y) (storedH xs k b u):=by
 have e:(kvs.any fun kv=>decide (kv.1=k))=(atKey xs k).isSome:=by
  rw[iO,(r.val k).kU,Option.isSome_map]
 unfold putK storedH;rw[e];by_cases q:(atKey xs k).isSome=true
 ·rw[Xp q,Xp q];exact r.HJ k ry
 ·rw[Xm q,Xm q];exact Paired.snoc r ⟨rfl,hb,ry⟩
theorem KT.keeps{H H':Hp}{kvs:List (List Key×V)}{xs:List (List Key×Addr×Value)}(r:KT H kvs xs)(ht:∀b ys,H b=some (.tup ys)→H' b=some (.tup ys)):KT H' kvs xs:=
 Paired.Hg r fun _ _ z=>⟨z.1,ht _ _ z.2.1,z.2.2⟩
section
variable{P:Program}{w:World}{H:Hp}{h:Heap}{a:Addr}
theorem Gb{u:HO}(ok:mH P w H h)(e:Rd H a u):cJ P w H h a u:=e.ok ok
theorem tE{kvs:List (Key×V)}(ok:mH P w H h)(e:Rd H a (.dK kvs)):kvs.length≤sizeLine∧(a==sysModules)=false∧∃vs,KV kvs vs∧h.DictOf (cS P w) a vs:=
 show cJ P w H h a (.dK kvs)from Gb ok e
theorem K8{kvs:List (Key×V)}(ok:mH P w H h)(e:H a=some (.dK kvs)):kvs.length≤sizeLine∧(a==sysModules)=false∧∃vs,KV kvs vs∧h.DictOf (cS P w) a vs:=tE ok (.inl e)
theorem oK{ks:List Key}(ok:mH P w H h)(e:H a=some (.tup (ks.map kV))):(tupleKind (cS P w)).is h ks a:=by
 obtain⟨_,its,r,o,h1,h2,n,h3⟩:=(show cJ P w H h a (.tup (ks.map kV))from ok a _ e)
 exact⟨o,its.toArray,n,h1,h2,h3,by simpa using uY r⟩
theorem tF{kvs:List (List Key×V)}(ok:mH P w H h)(e:Rd H a (.dT kvs)):kvs.length≤sizeLine∧(a==sysModules)=false∧
  ∃xs,KT H kvs xs∧h.DictOfH (tupleKind (cS P w)) a xs:=by
 obtain⟨z,y,xs,r,o,es,ep,h1,h2,h3,h4,h5⟩:=(show cJ P w H h a (.dT kvs)from Gb ok e)
 refine⟨z,y,xs,r,o,es,ep,h1,h2,h3,h4,fun x hx=>?_,h5⟩;have all:∀{l:List (List Key×V)}{m:List (List Key×Addr×Value)},KT H l m→∀x∈m,(tupleKind (cS P w)).is h x.1 x.2.1:=by
  intro l m q
  induction q with
  |nil=>intro x hx;exact nomatch hx
  |@cons p q ps qs hq t ih=>
   intro x hx;rcases List.mem_cons.mp hx with e|hx
   ·subst e;exact oK ok (by rw[←hq.1];exact hq.2.1)
   ·exact ih x hx
 exact all r x hx
theorem Gd{kvs:List (List Key×V)}(ok:mH P w H h)(e:H a=some (.dT kvs)):kvs.length≤sizeLine∧(a==sysModules)=false∧
  ∃xs,KT H kvs xs∧h.DictOfH (tupleKind (cS P w)) a xs:=tF ok (.inl e)
end
def kW(H:Hp)(a:Addr)(y:V)(r:Option V):Prop:=
 (∃kvs k,Rd H a (.dK kvs)∧y=kV k∧r=bo kvs k)∨∃kvs k b,Rd H a (.dT kvs)∧y= .ref b∧H b=some (.tup (k.map kV))∧r=bo kvs k
def Ew(H:Hp)(a:Addr)(y v:V)(H':Hp):Prop:=
 (∃kvs k,H a=some (.dK kvs)∧y=kV k∧kvs.length<sizeLine∧H'=upd H a (.dK (putK kvs k v)))∨
 ∃kvs k b,H a=some (.dT kvs)∧y= .ref b∧H b=some (.tup (k.map kV))∧kvs.length<sizeLine∧H'=upd H a (.dT (putK kvs k v))
theorem kW.t{H:Hp}{a b:Addr}{kvs:List (List Key×V)}{k:List Key}(e:H a=some (.dT kvs))(eb:H b=some (.tup (k.map kV))):kW H a (.ref b) (bo kvs k):= .inr ⟨kvs,k,b, .inl e,rfl,eb,rfl⟩
theorem Ew.t{H:Hp}{a b:Addr}{kvs:List (List Key×V)}{k:List Key}{v:V}(e:H a=some (.dT kvs))(eb:H b=some (.tup (k.map kV)))(hl:kvs.length<sizeLine):
  Ew H a (.ref b) v (upd H a (.dT (putK kvs k v))):= .inr ⟨kvs,k,b,e,rfl,eb,hl,rfl⟩
section
variable{X:Cx}{pins:List (Addr×Obj)}{σ:St}{H:Hp}{s:Shared}{a:Addr}{y v:V}{u r:Value}{o:Option V}{A:Around}{E:Value→Shared→Prop}
theorem Inv.big(I:Inv X pins σ H s):sysModules<s.heap.objs.size:=by
 have h:mainGlobals<s.heap.objs.size:=(I.mod.glob.keeps I.bk).lt;exact Nat.lt_trans (XC) h
theorem AJ{Q:Value→Shared→Prop}(hu:A.units+1<cLine)(I:Inv X pins σ H s)(g:kW H a y (some v))(ry:RelV y u)(h:∀w' s',Inv X pins σ H s'→RelV v w'→Q w' s'):
  wpAny Xv A (getItem (.ref a) u) Q E s:=by
 rcases g with⟨kvs,k,e,ey,l⟩|⟨kvs,k,b,e,ey,eb,l⟩
 ·subst ey;obtain⟨z,hd,vs,rel,dd⟩:=tE I.bO e;obtain⟨w',hw,oq⟩:=lz.some_of (v:=v) (o:=valueAt vs k) (by rw[l];exact rel.val k);exact wpAny_getItem_of (uX ry) dd.mapOf hw (h w' _ (I.tok _) oq)
 ·subst ey;cases(show u=Value.ref b from ry);obtain⟨z,hd,xs,rel,dd⟩:=tF I.bO e;obtain⟨w',hw,oq⟩:=lz.some_of (v:=v) (o:=(atKey xs k).map (·.2)) (by rw[l];exact rel.val k);obtain⟨p,hp,AK⟩:=Option.map_eq_some_iff.mp hw;refine wpAny_getItem_heap (tupleKind_room_in1 hu) (oK I.bO eb) dd hp ?_;rw[AK];exact h w' _ (I.tok _) oq
theorem ON{Q:Value→Shared→Prop}(hu:A.units+1<cLine)(I:Inv X pins σ H s)(g:kW H a y o)(ry:RelV y u)(h:∀s',Inv X pins σ H s'→Q (.bool o.isSome) s'):
  wpAny Xv A (compareOp .In u (.ref a)) Q E s:=by
 rcases g with⟨kvs,k,e,ey,l⟩|⟨kvs,k,b,e,ey,eb,l⟩
 ·subst ey;obtain⟨z,hd,vs,rel,dd⟩:=tE I.bO e;refine wpAny_in_of (uX ry) hd dd.mapOf ?_;rw[←(rel.val k).kU,←l];exact h _ (I.tok _)
 ·subst ey;cases(show u=Value.ref b from ry);obtain⟨z,hd,xs,rel,dd⟩:=tF I.bO e;refine wpAny_in_heap (tupleKind_room_in1 hu) (oK I.bO eb) hd dd ?_;have q:=(rel.val k).kU;rw[Option.isSome_map]at q;rw[←q,←l];exact h _ (I.tok _)
theorem Ex{Q:Value→Shared→Prop}(hu:A.units+1<cLine)(I:Inv X pins σ H s)(g:kW H a y o)(ry:RelV y u)(h:∀s',Inv X pins σ H s'→Q (.bool (!o.isSome)) s'):
  wpAny Xv A (compareOp .NotIn u (.ref a)) Q E s:=by
 rcases g with⟨kvs,k,e,ey,l⟩|⟨kvs,k,b,e,ey,eb,l⟩
 ·subst ey;obtain⟨z,hd,vs,rel,dd⟩:=tE I.bO e;refine wpAny_notIn_of (uX ry) hd dd.mapOf ?_;rw[←(rel.val k).kU,←l];exact h _ (I.tok _)
 ·subst ey;cases(show u=Value.ref b from ry);obtain⟨z,hd,xs,rel,dd⟩:=tF I.bO e;refine wpAny_notIn_heap (tupleKind_room_in1 hu) (oK I.bO eb) hd dd ?_;have q:=(rel.val k).kU;rw[Option.isSome_map]at q;rw[←q,←l];exact h _ (I.tok _)
theorem vH{h':Heap}{t':Nat}{ob:HO}(I:Inv X pins σ H s)(mu:Kv (H a))(hs:Heap.SameBut a s.heap h')(he:∃q,h'.get? a=some q)(new:cJ X.prog X.w (upd H a ob) h' a ob):
  Inv X pins σ (upd H a ob) {s with heap:=h',toks:=t'}:=
 I.write (x:=a) (e:=a) mu (.inl rfl) (fun b q hb z=>(hs.2 b hb).trans z) he new
theorem HK{P:Program}{w:World}{H':Hp}{h':Heap}{kvs:List (Key×V)}{vs:List (Key×Value)}(z:kvs.length≤sizeLine)(hd:(a==sysModules)=false)(rel:KV kvs vs)(dd:h'.DictOf (cS P w) a vs):
  cJ P w H' h' a (.dK kvs):=⟨z,hd,vs,rel,dd⟩
theorem AL{H':Hp}{Q:Unit→Shared→Prop}(hu:A.units+1<cLine)(I:Inv X pins σ H s)(g:Ew H a y v H')(ry:RelV y u)(rv:RelV v r)(h:∀s',Inv X pins σ H' s'→Q () s'):
  wpAny Xv A (setItem (.ref a) u r) Q E s:=by
 rcases g with⟨kvs,k,e,ey,l,eH⟩|⟨kvs,k,b,e,ey,eb,l,eH⟩
 ·subst ey eH;obtain⟨z,hd,vs,rel,dd⟩:=K8 I.bO e;have hz:vs.length≤sizeLine:=by rw[←rel.length];exact z
  have hl:(putK kvs k v).length≤sizeLine:=by have:=eO kvs k v;omega
  refine wpAny_setItem_pairs (hsz:=hz) (uX ry) dd fun h' D1 hs=>h _ ?_
  have he:∃q,h'.get? a=some q:=let ⟨q,_,_,hq,_⟩:=D1;⟨q,hq⟩
  exact vH I (by rw[e];exact True.intro) hs he (HK hl hd (rel.put k rv) D1)
 ·subst ey eH;cases(show u=Value.ref b from ry);obtain⟨z,hd,xs,rel,dd⟩:=Gd I.bO e;have hz:xs.length≤sizeLine:=by rw[←Paired.length rel];exact z
  have hl:(putK kvs k v).length≤sizeLine:=by have:=eO kvs k v;omega
  refine wpAny_setItem_heap (hsz:=hz) (tupleKind_room_in1 hu) (oK I.bO eb) dd fun h' D1 hs=>h _ ?_
  obtain⟨q,es,ep,hq,h2,h3,h4,_,h5⟩:=D1;refine vH I (by rw[e];exact True.intro) hs ⟨q,hq⟩ ⟨hl,hd,_,(rel.put k eb rv).keeps fun c ys ec=>?_,q,es,ep,hq,h2,h3,h4,h5⟩;rw[ai (jy ec e (fun z=>nomatch z))];exact ec
end
section
variable{X:Cx}{pins:List (Addr×Obj)}{σ:St}{H:Hp}{s:Shared}{a:Addr}{kvs:List (Key×V)}{k:Key}{u:Value}{A:Around}{E:Value→Shared→Prop}
end
def K9(i:Expr):Prop:=∀ov iv,subscripted i false ov iv=operate [ov,iv] (getItem ov iv)
theorem Ey{prog:Program}{w:World}{A:Around}{E:Value→Shared→Prop}{s:Shared}{env:Env}{value slice:Expr}{pos:Pos}{T id:String}{Q:Value→Shared→Prop}
  (hl:typeLookup (.type T) "__getitem__"=pure (some (.builtin id))) (hs:K9 slice)
  (h:wpAny Xx A (eval value env) (fun o bW=>wpAny Xx A (eval slice env) (fun i qG=>qG.TypeIs o T∧wpAny Xx A (getItem o i) Q E qG) E bW) E s):
  wpAny Xx A (eval (.Subscript value slice pos) env) Q E s:=by
 refine Subscript_ (wpAny_mono h (fun o bW AM=>wpAny_mono AM (fun i qG B1=>?_) fun _ _ x=>x) fun _ _ x=>x);obtain⟨hT,B1⟩:=B1;unfold subscriptTail;refine wpAny_bind ?_;rw[getitemInPython_of_ne hT.not_modules];refine wpAny_bind (wpAny_specialOf hT hl ?_);have fin:wpAny Xx A (subscripted slice false o i) (fun r AN=>wpAny Xx A (letTemporaryGo value o r>>=fun _=>pure r) Q E AN) E qG:=by
  rw[hs o i];exact wpAny_operating (wpAny_mono B1 (fun r AN Ez=>wpAny_bind (wpAny_letTemporaryGo (wpAny_pure Ez))) fun _ _ x=>x)
 first
  |exact wpAny_pure (wpAny_bind fin)
  |exact wpAny_bind (wpAny_pure (wpAny_bind fin))
  |exact wpAny_bind fin
theorem ZO{X:Cx}{pins:List (Addr×Obj)}{σ:St}{H:Hp}{s:Shared}{a:Addr}{y:V}{o:Option V}(I:Inv X pins σ H s)(g:kW H a y o):s.TypeIs (.ref a) "dict":=by
 rcases g with⟨kvs,k,e,_,_⟩|⟨kvs,k,b,e,_,_,_⟩
 ·obtain⟨_,_,vs,_,dd⟩:=tE I.bO e;exact dd.typeIs
 ·obtain⟨_,_,xs,_,dd⟩:=tF I.bO e;exact dd.typeIs
def K_(td ty:TE):TE:=fun σ H Q=>td σ H fun x H1=>ty σ H1 fun y H2=>∃a v,x= .ref a∧kW H2 a y (some v)∧Q v H2
def OO(ty td:TE):TE:=fun σ H Q=>ty σ H fun y H1=>td σ H1 fun x H2=>∃a o,x= .ref a∧kW H2 a y o∧Q (.bl o.isSome) H2
def EA(ty td:TE):TE:=fun σ H Q=>ty σ H fun y H1=>td σ H1 fun x H2=>∃a o,x= .ref a∧kW H2 a y o∧Q (.bl (!o.isSome)) H2
def K'(td ty tv:TE):TS:=fun D σ H=>tv σ H fun v H1=>td σ H1 fun x H2=>ty σ H2 fun y H3=>∃a H4,x= .ref a∧Ew H3 a y v H4∧D.nx σ H4
section
variable{X:Cx}{o i e value:Expr}{pos pos' OJ:Pos}{td ty tv:TE}
theorem je(hu:X.A.units+1<cLine)(ho:PE X o td)(hi:PE X i ty)(hs:K9 i):PE X (.Subscript o i pos) (K_ td ty):=by
 intro pins s σ H Q I h;refine Ey PySem.F.slot_dict_getitem.lookup hs (cy (ho pins s σ H _ I h) fun u s1 ⟨x,H1,I1,rx,q1⟩=>cy (hi pins s1 σ H1 _ I1 q1) fun iv s2 ⟨y,H2,I2,ry,a,v,ex,g,q2⟩=>?_);subst ex;obtain rfl:u=Value.ref a:=rx;exact⟨ZO I2 g,AJ hu I2 g ry fun w' s3 I3 oq=>⟨v,H2,I3,oq,q2⟩⟩
theorem qN(hu:X.A.units+1<cLine)(hi:PE X i ty)(ho:PE X o td):PC X .In i o (OO ty td):=by
 intro pins s σ H Q I h;refine cy (hi pins s σ H _ I h) fun iv s1 ⟨y,H1,I1,ry,q1⟩=>cy (ho pins s1 σ H1 _ I1 q1) fun u s2 ⟨x,H2,I2,rx,a,ov,ex,g,q2⟩=>?_
 subst ex;obtain rfl:u=Value.ref a:=rx;exact ON hu I2 g ry fun s3 I3=>⟨.bl ov.isSome,H2,I3,rfl,q2⟩
theorem uZ(hu:X.A.units+1<cLine)(hi:PE X i ty)(ho:PE X o td):PC X .NotIn i o (EA ty td):=by
 intro pins s σ H Q I h;refine cy (hi pins s σ H _ I h) fun iv s1 ⟨y,H1,I1,ry,q1⟩=>cy (ho pins s1 σ H1 _ I1 q1) fun u s2 ⟨x,H2,I2,rx,a,ov,ex,g,q2⟩=>?_
 subst ex;obtain rfl:u=Value.ref a:=rx;exact Ex hu I2 g ry fun s3 I3=>⟨.bl (!ov.isSome),H2,I3,rfl,q2⟩
theorem lB(hu:X.A.units+1<cLine)(ho:PE X o td)(hi:PE X i ty)(hv:PE X value tv)(hs:swapsWith value (some (.Subscript o i pos')) pos.line X.env=pure false):
  PS X (.Assign [.Subscript o i pos'] value pos) (K' td ty tv):=by
 intro pins s σ H D I h;refine wpAny_Assign_Subscript (cy (hv pins s σ H _ I h) fun r s1 ⟨v,H1,I1,rv,q1⟩=>cy (ho pins s1 σ H1 _ I1 q1) fun u s2 ⟨x,H2,I2,rx,q2⟩=>cy (hi pins s2 σ H2 _ I2 q2) fun iv s3 ⟨y,H3,I3,ry,a,H4,ex,g,q3⟩=>?_) hs;subst ex;obtain rfl:u=Value.ref a:=rx;exact AL hu I3 g ry rv fun s4 I4=>⟨σ,H4,I4,q3⟩
end
theorem B2{P:Program}{w:World}{H:Hp}(h:Heap)(hb:sysModules<h.objs.size):cJ P w H (h.push {cls:= .type "dict",data:= .dict #[]}) h.objs.size (.dT []):=
 ⟨Nat.zero_le _,beq_eq_false_iff_ne.mpr (Ne.symm (Nat.ne_of_lt hb)),[], .nil,_,#[],0,Heap.get?_push_size _ rfl,⟨rfl,rfl,rfl⟩,rfl,rfl,List.nodup_nil⟩
def HL:TE:=fun _ H Q=>∀p,H p=none→Q (.ref p) (upd H p (.dT []))
section
variable{X:Cx}{pos:Pos}
theorem kX:PE X (.Dict [] [] pos) HL:=fun pins s σ H Q I h=>
 wpAny_Dict_empty ⟨.ref s.heap.objs.size,_,I.laid (a:=s.heap.objs.size) (o:= .dT []) (t':=s.toks) (fun _ _ q=>Xo q) (Nat.le_refl _) (B2 s.heap I.big),rfl,h _ (I.bO.fresh (Nat.le_refl _))⟩
end
structure M1(X:Cx)(o:Expr)(m:Str)(apos:Pos)(e:Expr)(d_:Pos):Prop where
 base:attributeBase o m X.env (eval o X.env)=eval o X.env
 wR:((backTo d_ (starEach [e] X.env)).all (fun x=>!x.1)&&(backToKw d_ (keywordEach [] X.env)).all (fun x=>x.1.isSome)
  &&decide (([e]:List Expr).length+([]:List Keyword).length+(if ([]:List Keyword).isEmpty then 0 else 1)<30))=true
 line:(apos.endLine==d_.line)=true
 trees:backTo d_ (starEach [e] X.env)=[(false,eval e X.env)]
def OP(H:Hp)(a:Addr):Prop:=(∃kvs,Rd H a (.dK kvs))∨∃kvs,Rd H a (.dT kvs)
theorem B4{X:Cx}{pins:List (Addr×Obj)}{σ:St}{H:Hp}{s:Shared}{a:Addr}(I:Inv X pins σ H s)(d:OP H a):
  s.TypeIs (.ref a) "dict"∧(∀b,Value.ref a= .ref b→∃ob,s.heap.get? b=some ob∧ob.dict=none)∧(a==sysModules)=false:=by
 rcases d with⟨kvs,e⟩|⟨kvs,e⟩
 ·obtain⟨_,hd,vs,_,dd⟩:=tE I.bO e;refine⟨dd.typeIs,fun b q=>?_,hd⟩;cases q;obtain⟨ob,_,_,h1,h2,_⟩:=dd;exact⟨ob,h1,h2.2.1⟩
 ·obtain⟨_,hd,xs,_,dd⟩:=tF I.bO e;refine⟨dd.typeIs,fun b q=>?_,hd⟩;cases q;obtain⟨ob,_,_,h1,h2,_⟩:=dd;exact⟨ob,h1,h2.2.1⟩
section
variable{X:Cx}{pins:List (Addr×Obj)}{σ:St}{H:Hp}{s:Shared}{a:Addr}{y d:V}{u r:Value}{o:Option V}{A:Around}{E:Value→Shared→Prop}
theorem HM{Q:Value→Shared→Prop}(hu:A.units+1<cLine)(I:Inv X pins σ H s)(g:kW H a y o)(ry:RelV y u)(h:∀w' s',Inv X pins σ H s'→RelV (o.getD .cI) w'→Q w' s'):
  wpAny Xv A (call (.builtin "dict.get") [.ref a,u]) Q E s:=by
 rcases g with⟨kvs,k,e,ey,l⟩|⟨kvs,k,b,e,ey,eb,l⟩
 ·subst ey;obtain⟨z,hd,vs,rel,dd⟩:=tE I.bO e;refine call_meetsIn PySem.F.slot_dict_get dd.typeIs PySem.F.entry_dict_get (PySem.F.args_dict_get_2 _ _) (meets_dict_get (cS X.prog X.w) a (uX ry) hd) ⟨_,dd.mapOf,h _ _ (I.tok _) ?_⟩;rw[l];exact(rel.val k).getD rfl
 ·subst ey;cases(show u=Value.ref b from ry);obtain⟨z,hd,xs,rel,dd⟩:=tF I.bO e;refine call_meetsIn PySem.F.slot_dict_get dd.typeIs PySem.F.entry_dict_get (PySem.F.args_dict_get_2 _ _) (meetsH_dict_get (tupleKind (cS X.prog X.w)) a b hd) ⟨tupleKind_room_in1 hu,k,xs,oK I.bO eb,dd,h _ _ (I.tok _) ?_⟩;rw[l];exact(rel.val k).getD rfl
end
def HN(td ty:TE):TE:=fun σ H Q=>td σ H fun x H1=>∃a,x= .ref a∧OP H1 a∧ty σ H1 fun y H2=>∃o,kW H2 a y o∧Q (o.getD .cI) H2
section
variable{X:Cx}{o e f:Expr}{apos d_:Pos}{td ty tx:TE}
theorem B5(hu:X.A.units+1<cLine)(ho:PE X o td)(he:PE X e ty)(m:M1 X o "get" apos e d_):PE X (.Call (.Attribute o "get" apos) [e] [] d_) (HN td ty):=by
 intro pins s σ H Q I h;refine wpAny_Call_method m.base m.wR m.line PySem.F.plainAttrs_dict PySem.F.slot_dict_get PySem.F.type_dict_get (cy (ho pins s σ H _ I h) fun u s1 ⟨x,H1,I1,rx,a,ex,d,q1⟩=>?_);subst ex;obtain rfl:u=Value.ref a:=rx;obtain⟨t1,t2,_⟩:=B4 I1 d;refine⟨t1,t2,?_⟩;rw[m.trees];refine Calls.callWith_builtin rfl (Calls.evalArgs_plain (Calls.spliced_cons (cy (he pins s1 σ H1 _ I1 q1) fun iv s2 ⟨y,H2,I2,ry,ov,g,q2⟩=>Calls.spliced_nil ?_)));exact HM hu I2 g ry fun w' s3 I3 oq=>⟨_,H2,I3,oq,q2⟩
end
section
variable{X:Cx}{pins:List (Addr×Obj)}{σ:St}{H:Hp}{s:Shared}{a:Addr}{kvs:List (Key×V)}{A:Around}{E:Value→Shared→Prop}
end
section
variable{X:Cx}{pins:List (Addr×Obj)}{σ:St}{H:Hp}{s:Shared}{a:Addr}{y:V}{u:Value}{A:Around}{E:Value→Shared→Prop}
end
end L2
namespace HT
open PySem PyProof.Rows
section
open PySem.SeqAt
open PySem.AutoSeq1 (wpAny_loadPart')
open PySem.MeetsSeq PySem.MeetsSeq2 PySem.MeetsSeq3
end
section
variable{prog:Program}{w:World}{A:Around}{E:Value→Shared→Prop}{s:Shared}
def lC(n d:Nat):Option Int→Nat
 |none=>d
 |some v=>if v<0 then(v+(n:Int)).toNat else min v.toNat n
theorem B6(n d:Nat):lC n d none=d:=rfl
theorem B7(n d:Nat)(hd:d≤n)(o:Option Int):lC n d o≤n:=by
 cases o with
 |none=>exact hd
 |some v=>
  show(if v<0 then(v+(n:Int)).toNat else min v.toNat n)≤n;by_cases hv:v<0
  ·rw[Xp hv];omega
  ·rw[Xm hv];exact Nat.min_le_right _ _
end
end HT
namespace L2
open PySem PySem.Spec PyProof.Rows
abbrev TO:=St→Hp→(Option Int→Hp→Prop)→Prop
def PO(X:Cx)(e:Option Expr)(t:TO):Prop:=
 ∀(pins:List (Addr×Obj))(s:Shared)(σ:St)(H:Hp)(Q:Option Int→Hp→Prop),Inv X pins σ H s→t σ H Q→
  wpAny Xv X.A (evalPart e X.env) (fun u s'=>∃o H',Inv X pins σ H' s'∧IsPart u o∧Q o H') X.xe s
def EB:TO:=fun _ H Q=>Q none H
def Lb(t:TE):TO:=fun σ H Q=>t σ H fun x H1=>∃i,x= .int i∧Q (some i) H1
section
variable{X:Cx}{e:Expr}{te:TE}{lo hi:Option Expr}{tl th:TO}{pos p2:Pos}
theorem vI:PO X none EB:=by
 intro pins s σ H Q I h;rw[evalPart_none];exact wpAny_pure ⟨none,H,I, .none,h⟩
theorem pJ(h:PE X e te):PO X (some e) (Lb te):=by
 intro pins s σ H Q I hw;rw[evalPart_some];refine cy (h pins s σ H _ I hw) fun u s1 ⟨x,H1,I1,r1,q1⟩=>?_
 obtain⟨i,rfl,q⟩:=q1;obtain⟨t,rfl⟩:=r1;exact⟨some i,H1,I1, .int i t,q⟩
def Nb(X:Cx)(r:V→Option Int→Option Int→Hp→VK→Prop):Prop:=
 ∀(pins:List (Addr×Obj))(s:Shared)(σ:St)(H:Hp)(x:V)(v vl vu:Value)(lo hi:Option Int)(sl:Addr)(Q:VK),Inv X pins σ H s→RelV x v→s.heap.IsSliceOf sl vl vu .none→IsPart vl lo→IsPart vu hi→r x lo hi H Q→
  ∃T id,typeLookup (.type T) "__getitem__"=pure (some (.builtin id))∧s.TypeIs v T∧wpAny Xv X.A (getItem v (.ref sl)) (EP X pins σ Q) X.xe s
def Tx(r:V→Option Int→Option Int→Hp→VK→Prop)(te:TE)(tl th:TO):TE:=fun σ H Q=>te σ H fun x H1=>tl σ H1 fun l H2=>th σ H2 fun u H3=>r x l u H3 Q
theorem pK{r:V→Option Int→Option Int→Hp→VK→Prop}(hr:Nb X r)(he:PE X e te)(hl:PO X lo tl)(hu:PO X hi th):PE X (.Subscript e (.Slice lo hi none p2) pos) (Tx r te tl th):=by
 intro pins s σ H Q I h;refine Subscript_ (cy (he pins s σ H _ I h) fun v s1 ⟨x,H1,I1,r1,q1⟩=>?_);refine wpAny_Slice (cy (hl pins s1 σ H1 _ I1 q1) fun vl s2 ⟨l,H2,I2,pl,q2⟩=>cy (hu pins s2 σ H2 _ I2 q2) fun vu s3 ⟨u,H3,I3,pu,q3⟩=>?_);rw[evalPart_none];refine wpAny_pure ?_;have I4:Inv X pins σ H3 {s3 with heap:=s3.heap.push {cls:= .type "slice",data:= .fields #[vl,vu, .none]}}:=I3.kept (t':=s3.toks) fun b ob q=>Xo q
 obtain⟨T,id,hT,ht,hg⟩:=hr pins {s3 with heap:=s3.heap.push {cls:= .type "slice",data:= .fields #[vl,vu, .none]}} σ H3 x v vl vu l u s3.heap.objs.size Q I4 r1 (Heap.IsSliceOf.new ..) pl pu q3;show wpAny Xv X.A (subscriptTail e (.Slice lo hi none p2) v (.ref s3.heap.objs.size)) (EP X pins σ Q) X.xe {s3 with heap:=s3.heap.push {cls:= .type "slice",data:= .fields #[vl,vu, .none]}};exact tail_any (ops:=[.ref s3.heap.objs.size,v]) ht hT hg (by with_unfolding_all rfl)
def AO(xs:List V)(lo hi:Option Int):List V:=(xs.drop (HT.lC xs.length 0 lo)).take (HT.lC xs.length xs.length hi-HT.lC xs.length 0 lo)
theorem ZL(xs:List V)(lo hi:Option Int):(AO xs lo hi).length≤xs.length:=by
 unfold AO;rw[List.length_take,List.length_drop];omega
end
def B8(n:Nat)(i:Int):Option Nat:=if 0≤i then(if i<n then some i.toNat else none)else if-(n:Int)≤i then some (i+n).toNat else none
def sP{α:Type}(xs:List α)(i:Int):Option α:=(B8 xs.length i).bind fun j=>xs[j]?
theorem ZD{n:Nat}{i:Int}{j:Nat}(h:B8 n i=some j):seqIndex? i n=some j∧j<n∧-(n:Int)≤i∧i<n:=by
 unfold B8 at h;by_cases h0:0≤i
 ·rw[Xp h0]at h;by_cases h1:i<n
  ·rw[Xp h1]at h;have e:i.toNat=j:=Xs h;exact⟨by rw[seqIndex_of h0 h1,e],XB,XB,h1⟩
  ·rw[Xm h1]at h;cases h
 ·rw[Xm h0]at h;by_cases h1:-(n:Int)≤i
  ·rw[Xp h1]at h;have e:(i+n).toNat=j:=Xs h;exact⟨by rw[seqIndex_neg Xz h1,e],XB,h1,XB⟩
  ·rw[Xm h1]at h;cases h
theorem vJ{α:Type}{xs:List α}{i:Int}{v:α}(h:sP xs i=some v):∃j,seqIndex? i xs.length=some j∧xs[j]?=some v∧j<xs.length∧-(xs.length:Int)≤i∧i<xs.length:=by
 unfold sP at h;cases e:B8 xs.length i with
 |none=>rw[e]at h;cases h
 |some j=>
  rw[e]at h;obtain⟨h1,h2,h3,h4⟩:=ZD e;exact⟨j,h1,h,h2,h3,h4⟩
theorem ax{α:Type}{xs:List α}{j:Nat}{v:α}(h:xs[j]?=some v):sP xs (j:Int)=some v:=by
 have hj:j<xs.length:=(Xc h).1;have e:B8 xs.length (j:Int)=some j:=by
  unfold B8;rw[if_pos Xz,if_pos Xz];simp
 unfold sP;rw[e];exact h
theorem ZK{α:Type}(xs:List α)(v:α):sP (xs++[v]) (-1)=some v:=by
 have hl:(xs++[v]).length=xs.length+1:=XE;have e:B8 (xs++[v]).length (-1)=some xs.length:=by
  unfold B8;rw[hl,if_neg (XC),if_pos Xz]
  congr 1
  omega
 unfold sP;rw[e];show(xs++[v])[xs.length]?=some v;simp
def EC(b:Expr):Prop:=∀o i,subscripted b false o i=operate [o,i] (getItem o i)
def J2(X:Cx)(r:R2):Prop:=
 ∀(value slice:Expr)(pins:List (Addr×Obj))(s:Shared)(σ:St)(H:Hp)(x y:V)(v u:Value)(Q:VK),Inv X pins σ H s→RelV x v→RelV y u→r x y H Q→
  subscripted slice false v u=operate [v,u] (getItem v u)→wpAny Xv X.A (subscriptTail value slice v u) (EP X pins σ Q) X.xe s
def Nc(X:Cx)(id:String)(r:V→List V→Hp→VK→Prop):Prop:=
 ∀(pins:List (Addr×Obj))(s:Shared)(σ:St)(H:Hp)(x:V)(xs:List V)(v:Value)(us:List Value)(Q:VK),Inv X pins σ H s→RelV x v→Vals xs us→r x xs H Q→
  wpAny Xv X.A (call (.builtin id) (v::us)) (EP X pins σ Q) X.xe s
section
variable{X:Cx}{a b:Expr}{ta tb:TE}{pos:Pos}
theorem aG{r:R2}(hr:J2 X r)(ha:PE X a ta)(hb:PE X b tb)(hs:EC b):PE X (.Subscript a b pos) (Na r ta tb):=by
 intro pins s σ H Q I h;exact Subscript_ (Hz ha hb I h fun v u s2 x y H2 I2 rx ry q=>hr a b pins s2 σ H2 x y v u Q I2 rx ry q (hs _ _))
inductive HP(K:PySem.W.Frag)(x:V)(y:V)(H:Hp)(Q:VK):Prop
 |mk (p:_) (xs:_) (i:_) (v:_) (_:x= .ref p) (_:y= .int i) (_:jb K H p xs) (_:sP xs i=some v) (_:Q v H):HP K x y H Q
inductive HQ(K:PySem.W.Frag)(x:V)(y:V)(H:Hp)(Q:VK):Prop
 |mk (p:_) (xs:_) (i:_) (v:_) (_:x= .ref p) (_:y= .int i) (_:BK K H p xs) (_:sP xs i=some v) (_:Q v H):HQ K x y H Q
inductive Lc(x:V)(y:V)(H:Hp)(Q:VK):Prop
 |mk (z:_) (i:_) (c:_) (_:x= .str z) (_:y= .int i) (_:z.length≤sizeLine) (_:sP z.cps.toList i=some c) (_:Q (.str ⟨#[c]⟩) H):Lc x y H Q
theorem ED:J2 X (HP X.K):=by
 intro value slice pins s σ H x y v u Q I rx ry h hs;obtain⟨p,xs,i,z,rfl,rfl,hq,he,q⟩:=h;cases rx;obtain⟨t,rfl⟩:=ry;obtain⟨its,r,pl,hz⟩:=I.list hq;obtain⟨j,h1,h2,h3,h4,h5⟩:=vJ he;obtain⟨w,ew,oq⟩:=r.get h2;have hl:=r.length;have hn:=qI;have fin:EP X pins σ Q w s:=⟨z,H,I,oq,q⟩
 by_cases h0:0≤i
 ·have hj:i.toNat=j:=by
   rw[seqIndex_of h0 h5]at h1;exact Xs h1
  exact item_listR pl.isList h0 Xz (by rw[hj];simpa using ew) fin hs
 ·have hj:(i+(its.toArray.size:Int)).toNat=j:=by
   rw[seqIndex_neg Xz h4]at h1;rw[List.size_toArray,←hl];exact Xs h1
  exact subscriptTail_builtinR (x:=w) pl.isList.typeIs slot_list_getitem.lookup
   (wpAny_getItem_list_neg (Q:=fun r s'=>r=w∧EP X pins σ Q r s') pl.isList Xz (by rw[List.size_toArray]<;>omega) (XB) (by rw[hj];simpa using ew) ⟨rfl,fin⟩) hs
theorem HR:J2 X (HQ X.K):=by
 intro value slice pins s σ H x y v u Q I rx ry h hs;obtain⟨p,xs,i,z,rfl,rfl,hq,he,q⟩:=h;cases rx;obtain⟨t,rfl⟩:=ry;obtain⟨its,r,pl,hz⟩:=I.tuple hq;obtain⟨j,h1,h2,h3,h4,h5⟩:=vJ he;obtain⟨w,ew,oq⟩:=r.get h2;have hl:=r.length;have hn:=qI;have fin:EP X pins σ Q w s:=⟨z,H,I,oq,q⟩
 exact subscriptTail_builtinR (x:=w) pl.typeIs slot_tuple_getitem.lookup
  (getItem_tuple (j:=j) (Q:=fun r s'=>r=w∧EP X pins σ Q r s') pl Xz (XB) (by rw[List.size_toArray,←hl];exact h1) (by simpa using ew) ⟨rfl,fin⟩) hs
theorem B9:J2 X Lc:=by
 intro value slice pins s σ H x y v u Q I rx ry h hs;obtain⟨z,i,c,rfl,rfl,hz,he,q⟩:=h;obtain⟨t,rfl⟩:=rx;obtain⟨t',rfl⟩:=ry;obtain⟨j,h1,h2,h3,h4,h5⟩:=vJ he;have hl:z.cps.toList.length=z.length:=by simp[Str.length]
 rw[hl]at h1 h4 h5;have hn:=qI;exact tail_any (typeIs_str s z t) slot_str_getitem.lookup (getItem_str (c:=c) (by
  have e1:decide (i< -(2^63:Int))=false:=decide_eq_false Xz;have e2:decide (i≥2^63)=false:=decide_eq_false Xz;rw[e1,e2,Bool.or_false]) (by rw[h1];simpa using h2) ⟨.str ⟨#[c]⟩,H,I.tok _,⟨_,rfl⟩,q⟩) hs
theorem ZU(its:List Value)(n j:Nat)(u:Value):Obj.mapSeq (·.setIfInBounds j u) {cls:= .type "list",data:= .seq its.toArray n}={cls:= .type "list",data:= .seq (its.set j u).toArray n}:=by
 simp[Obj.mapSeq]
theorem Inv.lst{pins:List (Addr×Obj)}{σ:St}{H:Hp}{s:Shared}{p:Addr}{xs:List V}(I:Inv X pins σ H s)(h:H p=some (.lst xs)):
  ∃(its:List Value)(n:Nat),Vals xs its∧s.heap.get? p=some {cls:= .type "list",data:= .seq its.toArray n}∧xs.length≤sizeLine:=by
 obtain⟨z,its,n,r,e⟩:=I.bO p _ h;exact⟨its,n,r,e,z⟩
theorem Inv.HS{pins:List (Addr×Obj)}{σ:St}{H:Hp}{s:Shared}{p:Addr}{xs ys:List V}{its its':List Value}{n n':Nat}{f:Obj→Obj}(I:Inv X pins σ H s)(h:H p=some (.lst xs))
  (ho:s.heap.get? p=some {cls:= .type "list",data:= .seq its.toArray n}) (hf:f {cls:= .type "list",data:= .seq its.toArray n}={cls:= .type "list",data:= .seq its'.toArray n'}) (r:Vals ys its') (hz:ys.length≤sizeLine) (t:Nat):
  Inv X pins σ (upd H p (.lst ys)) {s with heap:=s.heap.update p f,toks:=t}:=by
 have e:(s.heap.update p f).get? p=some {cls:= .type "list",data:= .seq its'.toArray n'}:=by
  rw[Heap.get?_update_self f ho (by rw[hf]<;>rfl),hf]
 refine I.write (x:=p) (e:=p) (by rw[h];trivial) (.inl rfl) (fun b u hb q=>(Heap.get?_update_other _ _ (Ne.symm hb)).trans q) ⟨_,e⟩ ?_;exact⟨hz,its',n',r,e⟩
inductive Ge(o:V)(i:V)(v:V)(H:Hp)(Q:(Hp→Prop)):Prop
 |mk (p:_) (xs:_) (k:_) (j:_) (_:o= .ref p) (_:i= .int k) (_:H p=some (.lst xs)) (_:B8 xs.length k=some j) (_:Q (upd H p (.lst (xs.set j v)))):Ge o i v H Q
theorem set_list:KS X Ge:=by
 intro pins s σ H o i v ov iv u Q I ro ri rv h;obtain⟨p,xs,k,j,rfl,rfl,hp,hj,q⟩:=h;cases ro;obtain⟨t,rfl⟩:=ri;obtain⟨its,n,r,ho,hz⟩:=I.lst hp;obtain⟨h1,h2,h3,h4⟩:=ZD hj;have hl:=r.length;have hn:=qI;have I':Inv X pins σ (upd H p (.lst (xs.set j v))) {s with heap:=s.heap.update p (Obj.mapSeq (·.setIfInBounds j u))}:=
  I.HS hp ho (ZU its n j u) (r.set rv j) (by rw[List.length_set];exact hz) s.toks
 by_cases h0:0≤k
 ·have hk:k.toNat=j:=by
   rw[seqIndex_of h0 h4]at h1;exact Xs h1
  exact PySem.W.ki_setAt ho h0 Xz (by rw[List.size_toArray,←hl];exact h4) (by rw[hk];exact⟨_,I',q⟩)
 ·have hk:(k+(its.toArray.size:Int)).toNat=j:=by
   rw[seqIndex_neg Xz h3]at h1;rw[List.size_toArray,←hl];exact Xs h1
  exact PySem.W.ki_setBack ho Xz (by rw[List.size_toArray,←hl];exact h3) (XB) (by rw[hk];exact⟨_,I',q⟩)
theorem vK(lo hi:Option Int)(n:Nat):(sliceBounds lo hi none n).1=((HT.lC n 0 lo:Nat):Int)∧(sliceBounds lo hi none n).2.1=((HT.lC n n hi:Nat):Int)∧(sliceBounds lo hi none n).2.2=1:=by
 refine⟨?_,?_,rfl⟩
 ·cases lo with
  |none=>simp[sliceBounds,HT.lC]
  |some i=>
   simp only[sliceBounds,HT.lC,Option.getD_none,show(1:Int)>0 by decide,if_true];by_cases h:i<0
   ·simp only[h,if_true]<;>lia
   ·simp only[h,if_false]<;>lia
 ·cases hi with
  |none=>simp[sliceBounds,HT.lC]
  |some i=>
   simp only[sliceBounds,HT.lC,Option.getD_none,show(1:Int)>0 by decide,if_true];by_cases h:i<0
   ·simp only[h,if_true]<;>lia
   ·simp only[h,if_false]<;>lia
theorem ur(its:List Value)(lo hi:Option Int):slicePick its.toArray lo hi none=((its.drop (HT.lC its.length 0 lo)).take (HT.lC its.length its.length hi-HT.lC its.length 0 lo)).toArray:=by
 obtain⟨h1,h2,h3⟩:=vK lo hi its.toArray.size;unfold slicePick;rw[h1,h2,h3];simp only[sliceRange_one,pick_run,List.size_toArray]<;>rfl
inductive HU(K:PySem.W.Frag)(x:V)(lo:Option Int)(hi:Option Int)(H:Hp)(Q:VK):Prop
 |mk (a:_) (xs:_) (_:x= .ref a) (_:jb K H a xs) (_:∀p,H p=none→Q (.ref p) (upd H p (.lst (AO xs lo hi)))):HU K x lo hi H Q
theorem EE:Nb X (HU X.K):=by
 intro pins s σ H x v vl vu lo hi sl Q I rx hs pl pu h;obtain⟨a,xs,rfl,hx,q⟩:=h;cases rx;obtain⟨its,r,ht,hz⟩:=I.list hx;have hlen:=r.length;refine⟨"list",_,slot_list_getitem.lookup,ht.isList.typeIs,?_⟩;refine wpAny_getItem_list_slice ht.isList hs pl pu .none (XE) ?_ (by rw[List.size_toArray]<;>omega);rw[ur,←hlen];refine⟨.ref s.heap.objs.size,_,I.laid (t':=s.toks) (o:= .lst (AO xs lo hi)) (fun b ob q=>Xo q) (Nat.le_refl _) ?_,rfl,q _ (I.bO.fresh (Nat.le_refl _))⟩;exact⟨Nat.le_trans (ZL xs lo hi) hz,_,0,(r.drop (HT.lC xs.length 0 lo)).take (HT.lC xs.length xs.length hi-HT.lC xs.length 0 lo),Heap.get?_push_size _ rfl⟩
def rP:V→Bool
 | .cI=>true
 | .bl _=>true
 | .int _=>true
 | .str _=>true
 | _=>false
def vL:V→V→Bool
 | .cI, .cI=>true
 | .bl a, .bl b=>a==b
 | .bl a, .int b=>(if a then 1 else 0)==b
 | .int a, .bl b=>a==(if b then 1 else 0)
 | .int a, .int b=>a==b
 | .str a, .str b=>a==b
 | _,_=>false
theorem vM{A:Around}{s:Shared}{y x:V}{u v:Value}(ry:RelV y u)(rx:RelV x v)(fy:rP y=true)(fx:rP x=true):SeqAt.EqAt A s u v (vL y x):=by
 cases y with
 |cI=>
  cases ry;cases x with
  |cI=>cases rx;exact SeqAt.EqAt.same _
  |bl b=>cases rx;exact SeqAt.EqAt.none_bool b
  |int b=>obtain⟨t,rfl⟩:=rx;exact SeqAt.EqAt.none_int b t
  |str b=>obtain⟨t,rfl⟩:=rx;exact SeqAt.EqAt.none_str b t
  | _=>exact absurd (show false=true from fx) Bool.false_ne_true
 |bl a=>
  cases ry;cases x with
  |cI=>cases rx;exact SeqAt.EqAt.bool_none a
  |bl b=>cases rx;exact SeqAt.EqAt.bool_bool a b
  |int b=>obtain⟨t,rfl⟩:=rx;exact SeqAt.EqAt.bool_int a b t
  |str b=>obtain⟨t,rfl⟩:=rx;exact SeqAt.EqAt.bool_str a b t
  | _=>exact absurd (show false=true from fx) Bool.false_ne_true
 |int a=>
  obtain⟨t',rfl⟩:=ry;cases x with
  |cI=>cases rx;exact SeqAt.EqAt.int_none a t'
  |bl b=>cases rx;exact SeqAt.EqAt.int_bool a t' b
  |int b=>obtain⟨t,rfl⟩:=rx;exact SeqAt.EqAt.int_int a t' b t
  |str b=>obtain⟨t,rfl⟩:=rx;exact SeqAt.EqAt.int_str a t' b t
  | _=>exact absurd (show false=true from fx) Bool.false_ne_true
 |str a=>
  obtain⟨t',rfl⟩:=ry;cases x with
  |cI=>cases rx;exact SeqAt.EqAt.str_none a t'
  |bl b=>cases rx;exact SeqAt.EqAt.str_bool a t' b
  |int b=>obtain⟨t,rfl⟩:=rx;exact SeqAt.EqAt.str_int a t' b t
  |str b=>obtain⟨t,rfl⟩:=rx;exact SeqAt.EqAt.str_str a t' b t
  | _=>exact absurd (show false=true from fx) Bool.false_ne_true
 | _=>exact absurd (show false=true from fy) Bool.false_ne_true
theorem vN:jz X (.builtin "len") (fun xs H Q=>∃p ys,xs=[.ref p]∧(jb X.K H p ys∨BK X.K H p ys)∧Q (.int ys.length) H):=by
 intro pins s σ H xs us Q I r h;obtain⟨p,ys,rfl,hq,q⟩:=h;obtain⟨u,rfl,rx⟩:=vals1 r;cases rx;have hn:=qI;rcases hq with hq|hq
 ·obtain⟨its,r',pl,hz⟩:=I.list hq;have hlen:=r'.length;exact Calls.call_len_list pl.isList (by simp only[List.size_toArray]<;>omega) ⟨.int ys.length,H,I.tok _,⟨s.toks+1,by rw[List.size_toArray,hlen]⟩,q⟩
 ·obtain⟨its,r',pl,hz⟩:=I.tuple hq;have hlen:=r'.length;exact len_tuple pl (by simp only[List.size_toArray]<;>omega) ⟨.int ys.length,H,I.tok _,⟨s.toks+1,by rw[List.size_toArray,hlen]⟩,q⟩
theorem pL:jz X (.builtin "len") (fun xs H Q=>∃z,xs=[.str z]∧z.length≤sizeLine∧Q (.int z.length) H):=by
 intro pins s σ H xs us Q I r h;obtain⟨z,rfl,hz,q⟩:=h;obtain⟨u,rfl,t,rfl⟩:=vals1 r;have hn:=qI;exact len_str Xz ⟨.int z.length,H,I.tok _,⟨_,rfl⟩,q⟩
theorem vO:jz X (.type "list") (fun xs H Q=>∃p ys,xs=[.ref p]∧(jb X.K H p ys∨BK X.K H p ys)∧∀l,H l=none→Q (.ref l) (upd H l (.lst ys))):=by
 intro pins s σ H xs us Q I r h;obtain⟨p,ys,rfl,hq,q⟩:=h;obtain⟨u,rfl,rx⟩:=vals1 r;cases rx;have fin:∀(its:List Value),Vals ys its→ys.length≤sizeLine→∀(h':Heap)(c':Nat),(∀b o',s.heap.get? b=some o'→h'.get? b=some o')→
   h'.get? s.heap.objs.size=some {cls:= .type "list",dict:=none,data:= .seq its.toArray c',slots:=#[]}→EP X pins σ Q (.ref s.heap.objs.size) {s with heap:=h'}:=fun its r' hz h' c' kp e=>
  ⟨.ref s.heap.objs.size,_,I.laid (t':=s.toks) kp (Nat.le_refl _) (show cJ X.prog X.w _ h' _ (.lst ys)from⟨hz,its,c',r',e⟩),rfl,q _ (I.bO.fresh (Nat.le_refl _))⟩
 rcases hq with hq|hq
 ·obtain⟨its,r',pl,hz⟩:=I.list hq;have hlen:=r'.length;obtain⟨o,ho,hc,n,hd⟩:=pl.isList;exact call_list_seq p (.inl rfl) ho hc hd (fun h' c' kp e=>fin its r' hz h' c' kp e) (by simp only[List.size_toArray]<;>omega)
 ·obtain⟨its,r',pl,hz⟩:=I.tuple hq;have hlen:=r'.length;obtain⟨o,ho,hc,n,hd⟩:=pl;exact call_list_seq p (.inr rfl) ho hc hd (fun h' c' kp e=>fin its r' hz h' c' kp e) (by simp only[List.size_toArray]<;>omega)
def OQ(K:PySem.W.Frag)(T:String)(x:V)(H:Hp):Prop:=match x with
 | .str _=>T="str"
 | .int _=>T="int"
 | .ref p=>(T="list"∧∃xs,jb K H p xs)∨(T="tuple"∧∃o,K.lookup p=some o∧o.cls= .type "tuple"∧o.dict=none)∨
   (T="dict"∧((∃kvs,H p=some (.dK kvs))∨∃kvs,H p=some (.dT kvs)))∨(T="set"∧∃S n,H p=some (.set S n))
 | _=>False
theorem B_{pins:List (Addr×Obj)}{σ:St}{H:Hp}{s:Shared}{T:String}{x:V}{v:Value}(I:Inv X pins σ H s)(r:RelV x v)(ty:OQ X.K T x H):
  s.TypeIs v T∧∀a,v= .ref a→∃ob,s.heap.get? a=some ob∧ob.dict=none:=by
 cases x with
 |str z=>
  obtain⟨t,rfl⟩:=r;cases(show T="str" from ty);exact⟨typeIs_str s z t,fun _ e=>nomatch e⟩
 |int i=>
  obtain⟨t,rfl⟩:=r;cases(show T="int" from ty);exact⟨typeIs_int s i t,fun _ e=>nomatch e⟩
 |ref p=>
  cases r;rcases ty with⟨rfl,xs,hq⟩|⟨rfl,o,hk,hc,hd⟩|⟨rfl,hk⟩|⟨rfl,S,n,hk⟩
  ·obtain⟨its,_,pl,_⟩:=I.list hq;refine⟨pl.isList.typeIs,fun a e=>?_⟩;cases e;obtain⟨o,n,e,c,hd,_⟩:=pl;exact⟨o,e,hd⟩
  ·refine⟨⟨o,I.qF p o hk,hc⟩,fun a e=>?_⟩;cases e;exact⟨o,I.qF _ o hk,hd⟩
  ·have z:∃o,s.heap.get? p=some o∧o.ExactDict:=by
    rcases hk with⟨kvs,hk⟩|⟨kvs,hk⟩
    ·obtain⟨_,_,_,_,o,_,_,e,ex,_⟩:=I.bO p _ hk;exact⟨o,e,ex⟩
    ·obtain⟨_,_,_,_,o,_,_,e,ex,_⟩:=I.bO p _ hk;exact⟨o,e,ex⟩
   obtain⟨o,e,ex⟩:=z;refine⟨⟨o,e,ex.1⟩,fun a e2=>?_⟩;cases e2;exact⟨o,e,ex.2.1⟩
  ·obtain⟨o,_,_,_,e,ex,_⟩:=I.bO p _ hk;refine⟨⟨o,e,ex.1⟩,fun a e2=>?_⟩;cases e2;exact⟨o,e,ex.2.1⟩
 | _=>exact False.elim ty
def Ld(K:PySem.W.Frag)(T:String)(r:V→List V→Hp→VK→Prop)(to:TE):TE:=fun σ H Q=>to σ H fun x H1=>OQ K T x H1∧r x [] H1 Q
def Rb(K:PySem.W.Frag)(T:String)(r:V→List V→Hp→VK→Prop)(to:TE)(t:TA):TE:=fun σ H Q=>to σ H fun x H1=>OQ K T x H1∧t σ H1 fun xs H2=>r x xs H2 Q
variable{o e:Expr}{es:List Expr}{to:TE}{t:TA}{name:Str}{apos d_:Pos}{T id:String}{r:V→List V→Hp→VK→Prop}
theorem HV(pa:PlainAttrs T)(slot:Slot T name id)(Bv:typeOf (.builtin id)=pure (.type "method_descriptor"))(hm:Nc X id r)(ho:PE X o to)
  (pM:attributeBase o name X.env (eval o X.env)=eval o X.env:=by rfl) (pN:(apos.endLine==d_.line)=true:=by rfl):PE X (.Call (.Attribute o name apos) [] [] d_) (Ld X.K T r to):=by
 intro pins s σ H Q I h;refine wpAny_Call_method0_late pM pN (cy (ho pins s σ H _ I h) fun v s1 ⟨x,H1,I1,r1,ty,q1⟩=>?_);obtain⟨h1,h2⟩:=B_ I1 r1 ty;exact⟨T,id,pa,slot,Bv,h1,h2,Calls.callWith_builtin rfl (PySem.evalArgs_none (hm pins s1 σ H1 x [] v [] Q I1 r1 .nil q1))⟩
theorem Le(pa:PlainAttrs T)(slot:Slot T name id)(Bv:typeOf (.builtin id)=pure (.type "method_descriptor"))(hm:Nc X id r)(ho:PE X o to)(ha:PA X (e::es) t)
  (pM:attributeBase o name X.env (eval o X.env)=eval o X.env:=by rfl)
  (Ca:((backTo d_ (starEach (e::es) X.env)).all (fun x=>!x.1)&&(backToKw d_ (keywordEach [] X.env)).all (fun x=>x.1.isSome)
   &&decide ((e::es).length+([]:List Keyword).length+(if ([]:List Keyword).isEmpty then 0 else 1)<30))=true:=by rfl)
  (pN:(apos.endLine==d_.line)=true:=by rfl) (hs:starEach (e::es) X.env=(false,eval e X.env)::starEach es X.env:=by rfl) (YM:(backTo d_ (starEach es X.env)).any (·.1)=false:=by rfl):
  PE X (.Call (.Attribute o name apos) (e::es) [] d_) (Rb X.K T r to t):=by
 intro pins s σ H Q I h;refine wpAny_Call_method_late pM Ca pN rfl (cy (ho pins s σ H _ I h) fun v s1 ⟨x,H1,I1,r1,ty,q1⟩=>?_);obtain⟨h1,h2⟩:=B_ I1 r1 ty;refine⟨T,id,pa,slot,Bv,h1,h2,?_⟩;have hA:=ha d_ pins s1 σ H1 _ I1 q1;rw[hs]at hA⊢;refine Calls.callWith_builtin (by show(false||(backTo d_ (starEach es X.env)).any (·.1))=false;rw[YM]<;>rfl) (Calls.evalArgs_plain ?_);exact cy hA fun us s2 ⟨vs,H2,I2,r2,q2⟩=>hm pins s2 σ H2 x vs v us Q I2 r1 r2 q2
end
def OR(X:Cx)(id:String)(r:V→List V→Hp→VK→Prop):Prop:=
 ∀(pins:List (Addr×Obj))(s:Shared)(σ:St)(H:Hp)(x:V)(xs:List V)(v:Value)(us:List Value)(Q:VK),Inv X pins σ H s→RelV x v→Vals xs us→r x xs H Q→
  wpAny Xv X.A (call (.builtin id) (v::us)) (EP X pins σ Q) X.xe s
theorem Vals.one:∀{x:V}{us:List Value},Vals [x] us→∃u,us=[u]∧RelV x u
 | _,_, .cons r .nil=>⟨_,rfl,r⟩
theorem Vals.zero:∀{us:List Value},Vals [] us→us=[]
 | _, .nil=>rfl
theorem Vals.reverse{xs:List V}{us:List Value}(h:Vals xs us):Vals xs.reverse us.reverse:=by
 induction h with
 |nil=>exact .nil
 |cons r t ih=>rw[List.reverse_cons,List.reverse_cons];exact Vals.append ih (.cons r .nil)
theorem Vals.rep{xs:List V}{us:List Value}(h:Vals xs us):∀k:Nat,Vals (List.replicate k xs).flatten (List.replicate k us).flatten
 |0=> .nil
 |k+1=>by
  rw[List.replicate_succ,List.replicate_succ,List.flatten_cons,List.flatten_cons];exact Vals.append h (Vals.rep h k)
theorem foldl_rep(its:List Value):∀(k:Nat)(acc:List Value),
  List.foldl (fun x1 x2=>x1++x2) acc.toArray (List.replicate k its.toArray)=(acc++(List.replicate k its).flatten).toArray
 |0,acc=>XE
 |k+1,acc=>by
  have e:acc.toArray++its.toArray=(acc++its).toArray:=XE;have e2:(acc++its)++(List.replicate k its).flatten=acc++(List.replicate (k+1) its).flatten:=by
   rw[List.replicate_succ,List.flatten_cons,List.append_assoc]
  rw[←e2,←foldl_rep its k (acc++its),←e,List.replicate_succ,List.foldl_cons]
section
variable{X:Cx}{pins:List (Addr×Obj)}{σ:St}{H:Hp}{s:Shared}{l b:Addr}{xs ys zs:List V}
theorem Inv.HW{its its':List Value}{n:Nat}{f:Array Value→Array Value}{t':Nat}(I:Inv X pins σ H s)(hH:H l=some (.lst xs))
  (e:s.heap.get? l=some {cls:= .type "list",data:= .seq its.toArray n}) (hf:f its.toArray=its'.toArray) (hv:Vals ys its') (hz:ys.length≤sizeLine):
  Inv X pins σ (upd H l (.lst ys)) {s with heap:=s.heap.update l (Obj.mapSeq f),toks:=t'}:=by
 have q:=PySem.IsL.update e f;rw[hf]at q;refine I.write (x:=l) (e:=l) (by rw[hH];exact trivial) (.inl rfl) (fun b' u hb hu=>(Heap.get?_update_other s.heap (Obj.mapSeq f) (Ne.symm hb)).trans hu) ⟨_,q⟩ ?_;exact⟨hz,its',_,hv,q⟩
theorem Inv.OS{its:List Value}{t':Nat}(I:Inv X pins σ H s)(hv:Vals ys its)(hz:ys.length≤sizeLine):
  Inv X pins σ (upd H s.heap.objs.size (.lst ys)) {s with heap:=s.heap.push {cls:= .type "list",data:= .seq its.toArray},toks:=t'}:=
 I.laid (fun _ _ q=>Xo q) (Nat.le_refl _) ⟨hz,its,0,hv,Heap.get?_push_size _ rfl⟩
theorem Inv.fresh(I:Inv X pins σ H s):H s.heap.objs.size=none:=I.bO.fresh (Nat.le_refl _)
theorem Inv.Cb(I:Inv X pins σ H s)(hH:H l=some (.lst xs)):xs.length≤sizeLine∧∃(its:List Value)(n:Nat),Vals xs its∧xs.length=its.length∧s.heap.get? l=some {cls:= .type "list",data:= .seq its.toArray n}:=by
 obtain⟨z,its,n,r,e⟩:=I.bO l _ hH;exact⟨z,its,n,r,r.length,e⟩
theorem ZG{n:Nat}(h:n≤sizeLine):Builtin.List.listTooLong n=false:=by
 unfold Builtin.List.listTooLong;exact decide_eq_false Xz
end
section
variable{X:Cx}
inductive Yx(x:V)(vs:List V)(H:Hp)(Q:VK):Prop
 |mk (l:_) (xs:_) (y:_) (_:x= .ref l) (_:vs=[y]) (_:H l=some (.lst xs)) (_:xs.length<sizeLine) (_:Q .cI (upd H l (.lst (xs++[y])))):Yx x vs H Q
theorem bJ:OR X "list.append" Yx:=by
 intro pins s σ H x vs v us Q I rx rv h;obtain⟨l,xs,y,rfl,rfl,hH,hz,q⟩:=h;cases rx;obtain⟨u,rfl,ru⟩:=rv.one;obtain⟨z,its,n,r,hl,e⟩:=I.Cb hH;refine call_meets F.slot_list_append ⟨_,e,rfl⟩ F.entry_list_append (F.args_list_append_2 _ _) (PySem.list_append l its.toArray n u (by rw[List.size_toArray];omega)) ⟨e,?_⟩;refine⟨.cI,_,I.HW (its':=its++[u]) hH e Xy (r.append (.cons ru .nil)) ?_,rfl,q⟩;rw[List.length_append,List.length_singleton];omega
def EF:V→List V→Hp→VK→Prop:=fun x vs H Q=>∃l b xs zs,x= .ref l∧vs=[.ref b]∧H l=some (.lst xs)∧H b=some (.lst zs)∧xs.length+zs.length≤sizeLine∧Q .cI (upd H l (.lst (xs++zs)))
theorem u0:OR X "list.extend" EF:=by
 intro pins s σ H x vs v us Q I rx rv h;obtain⟨l,b,xs,zs,rfl,rfl,hH,hB,hz,q⟩:=h;cases rx;obtain⟨u,rfl,ru⟩:=rv.one;cases ru;obtain⟨z,its,n,r,hl,e⟩:=I.Cb hH;obtain⟨z2,fC,n2,r2,uj,e2⟩:=I.Cb hB;have hsz:its.toArray.size+fC.toArray.size≤sizeLine:=by rw[List.size_toArray,List.size_toArray];omega
 have Cc:¬(!its.toArray.isEmpty&&Builtin.List.listTooLong (its.toArray.size+fC.toArray.size))=true:=by
  rw[ZG hsz,Bool.and_false];exact Bool.false_ne_true
 refine call_meets F.slot_list_extend ⟨_,e,rfl⟩ F.entry_list_extend (F.args_list_extend_2 _ _)
  (AutoSeq1.list_extend_list_list_0 l its.toArray n b fC.toArray n2 Cc (by rw[List.size_toArray];omega) (XB)) ⟨e,e2,?_⟩
 refine⟨.cI,_,I.HW (its':=its++fC) hH e Xy (r.append r2) ?_,rfl,q⟩;rw[List.length_append];omega
def Cd:V→List V→Hp→VK→Prop:=fun x vs H Q=>∃l xs,x= .ref l∧vs=[]∧H l=some (.lst xs)∧Q .cI (upd H l (.lst xs.reverse))
theorem Zm:OR X "list.reverse" Cd:=by
 intro pins s σ H x vs v us Q I rx rv h;obtain⟨l,xs,rfl,rfl,hH,q⟩:=h;cases rx;have OT:=rv.zero;subst OT;obtain⟨z,its,n,r,hl,e⟩:=I.Cb hH;refine call_meets F.slot_list_reverse ⟨_,e,rfl⟩ F.entry_list_reverse (F.args_list_reverse_1 _) (AutoSeq1.list_reverse_list_0 l its.toArray n (by rw[List.size_toArray];omega)) ⟨e,?_⟩;refine⟨.cI,_,I.HW (its':=its.reverse) hH e Xy r.reverse ?_,rfl,q⟩;rw[List.length_reverse];omega
def OU:R2:=fun x y H Q=>∃l k xs,x= .ref l∧y= .int k∧H l=some (.lst xs)∧-(2^63)≤k∧k<2^63∧xs.length*k.toNat≤sizeLine∧
 ∀p,H p=none→Q (.ref p) (upd H p (.lst (List.replicate k.toNat xs).flatten))
theorem len_rep{α:Type}(xs:List α)(k:Nat):(List.replicate k xs).flatten.length=k*xs.length:=by
 induction k with
 |zero=>simp
 |succ k ih=>rw[List.replicate_succ,List.flatten_cons,List.length_append,ih,Nat.succ_mul,Nat.add_comm]
theorem HX:sk X (binaryOp .Mult) OU:=by
 intro pins s σ H x y v u Q I rx ry h;obtain⟨l,k,xs,rfl,rfl,hH,h1,h2,hz,q⟩:=h;cases rx;obtain⟨t,rfl⟩:=ry;obtain⟨z,its,n,r,hl,e⟩:=I.Cb hH;have hlen:its.toArray.size*k.toNat≤sizeLine:=by rw[List.size_toArray,←hl];exact hz
 have OW:¬its.toArray.size*k.toNat>(2^63-1)/8:=by
  have:(sizeLine:Nat)≤(2^63-1)/8:=XC;omega
 have OX:¬(!Builtin.List.listFitsIndex k)=true:=by
  rw[fitsIndex_both h1 h2];exact Bool.false_ne_true
 have Cc:¬Builtin.List.listTooLong (its.toArray.size*k.toNat)=true:=by
  rw[ZG hlen];exact Bool.false_ne_true
 have AQ:List.foldl (fun x1 x2=>x1++x2) #[] (List.replicate (if its.toArray.isEmpty=true then 0 else k.toNat) its.toArray)=(List.replicate k.toNat its).flatten.toArray:=by
  have f0:∀m:Nat,List.foldl (fun x1 x2=>x1++x2) #[] (List.replicate m its.toArray)=(List.replicate m its).flatten.toArray:=fun m=>by
   have:=foldl_rep its m [];rw[List.nil_append]at this;exact this
  rw[f0];cases its with
  |nil=>simp
  |cons a r'=>rw[if_neg Xy]
 refine wpAny_binaryOp_repeat_ref (T:="list") (U:="int") (XC) ⟨_,e,rfl⟩ (fun s'=>typeIs_int s' k t) noFill_list_mul F.fills_int_mul F.slot_int_rmul repeat_list F.slot_int_index.lookup
  (call_meets F.slot_int_rmul (typeIs_int s k t) F.entry_int_rmul (F.args_int_rmul_2 _ _) (int___rmul___int_list k t l its.toArray n)
   ⟨e,rfl,⟨_,e,rfl⟩,call_meets F.slot_list_mul ⟨_,e,rfl⟩ F.entry_list_mul (F.args_list_mul_2 _ _) (AutoListH.list___mul___list_int_3 l its.toArray n k t OX OW Cc) ⟨e,?_⟩⟩)
 rw[AQ];exact⟨.ref _,_,I.OS (t':=s.toks) (r.rep k.toNat) (by rw[len_rep,Nat.mul_comm];exact hz),rfl,q _ I.fresh⟩
end
section
variable{prog:Program}{w:World}{A:Around}{E:Value→Shared→Prop}{s:Shared}
end
section
variable{X:Cx}
end
end L2
namespace Rg
open PySem PySem.W PySem.Calls PyProof.Rows
theorem so{P:Params}{h:Heap}:∀(ns:List Int)(vs:List Value),WellAll P h vs (ns.map WData.int)→IntsAre vs ns:=by
 intro ns
 induction ns with
 |nil=>
  intro vs w;rw[List.map_nil]at w;cases w;exact .nil
 |cons n ns ih=>
  intro vs w;rw[List.map_cons]at w;cases w with
  |cons a b=>
   cases a;exact .cons _ _ (ih _ b)
theorem AR{l:OpenLaw}{n:Nat}(hn:l.most=some n){P:Params}{h:Heap}{args:List WData}{vals:List Value}
  (EG:l.row.toRowW.claim.pre args=true) (Lf:WellAll P h vals args):
  ∃a vs ns,vals=[Value.ref a]∧args=[WData.list (ns.map WData.int)]∧h.get? a=some {cls:= .type "list",data:= .seq vs.toArray}∧IntsAre vs ns∧ns.length≤n:=by
 have Lg:WShape.hasAll [] args [.list .int]=true:=(pre_splitW EG).1;have hc:l.pre.holds [] {args:=args}=true:=(pre_splitW EG).2;obtain⟨d,r,rfl,h1,h2⟩:=hasAllW_cons Lg;obtain rfl:=hasAllW_nil h2;obtain⟨xs,rfl,h3⟩:=hasW_list h1;obtain⟨ns,rfl⟩:=items_int h3;have hlen:ns.length≤n:=by
  unfold OpenLaw.pre at hc;have h4:(WTm.not (.lt (.lit (.int (n:Int))) (.len (.arg 0)))).holds [] {args:=[.list (ns.map .int)]}=true:=by
   have h4:=(holds_andW hc).1;rw[hn]at h4;exact h4
  have h5:=condW_of h4 (w_not (w_lt w_lit (w_len_list (w_arg rfl))));rw[List.length_map]at h5;refine Nat.le_of_not_lt fun q=>?_
  have q':(n:Int)<((ns.length:Nat):Int):=XB;first
   |(rw[decide_eq_true q']at h5;exact absurd h5 (XC))
   |(simp at h5;omega)
 cases Lf with
 |cons w1 w2=>
  cases w2;cases w1 with
  |list ho OY=>exact⟨_,_,ns,rfl,rfl,ho,so ns _ OY,hlen⟩
theorem AS(l:OpenLaw)(args:List WData):l.row.toRowW.claim.post args (.bool true) args=true:=
 postW_of (r:=l.row.toRowW) (X:=(true==true))
  (show WShape.has [] (.bool true) .bool=true by first|rfl|decide|simp[WShape.has,WShape.arms,WShape.armsAll])
  (show(WTm.eq .res (.lit (.bool true))).value [] {args:=args,res:=some (.bool true),after:=args}=some (.bool (true==true))from w_eq_bool (w_res rfl) w_lit) rfl
theorem Zs{l:OpenLaw}{n:Nat}{q:Program}{loose:List Str}{XP:(Str→Option Value)→Heap→Prop}{YP:World→Heap→Prop}{d:DefRec}
  (hn:l.most=some n) (Lh:d.params.defaults=[])
  (call:∀(w:World)(de bW:Shared)(mg mb:Str→Option Value)(fa:Addr)(o:Obj)(pm cd doc:Value)(a:Addr)(vs:List Value)(ns:List Int),
   Ground q loose [] XP w de mg mb bW.heap→YP w bW.heap→
   bW.heap.get? fa=some o→o.data= .func (docDef d.name d.params d.body d.scope pm cd doc)→bW.heap.CodeRec cd d.name→mg d.name=some (.ref fa)→
   bW.heap.get? a=some {cls:= .type "list",data:= .seq vs.toArray}→IntsAre vs ns→ns.length≤n→bW.gens=#[]→
   codeAny (model l.prog w) callerA (.call (.ref fa) ⟨[.ref a],[]⟩) (fun r s'=>r= .ok (.ret (.bool true))∧OldK bW.heap s'.heap∧s'.os=bW.os∧AllBare s'.gens) bW):
  WalkO q loose XP YP l.row.toRowW d [] (fun f vs=>PySem.call f vs):=by
 intro w de bW mg mb G Y fa o pm cd doc dV kV ho hd AA hD Li hg args vals as EG Tz Wx Lf J3;obtain rfl:dV= .none:=Dflts.none hD Lh;obtain rfl:kV= .none:=Dflts.noKw hD;obtain⟨a,vs,ns,rfl,rfl,HY,hints,hlen⟩:=AR hn EG Lf;refine enter_call (codeAny_mono (call w de bW mg mb fa o pm cd doc a vs ns G Y ho (fd_plain hd) AA Li HY hints hlen hg) fun r s' hq=>?_);obtain⟨rfl,h2,h3,h4⟩:=hq;exact⟨.inl ⟨.bool true, .bool true,[],rfl,fun _=>rfl, .bool true,AS l _,fun _=>⟨List.Pairwise.nil,fun _ hm=>(nomatch hm)⟩⟩,h2,h3,h4⟩
section
variable{prog:Program}{w:World}{A:Around}{E:Value→Shared→Prop}{s:Shared}{K:Frag}
def ledger(h:Heap)(L d:Addr):List (Addr×Obj):=(List.range h.objs.size).filterMap fun a=>if a=L∨a=d then none else(h.get? a).map fun o=>(a,o)
end
end Rg
namespace L2
open PySem PySem.Spec PyProof.Rows
theorem u7:∀{vs:List Value}{ns:List Int},IntsAre vs ns→Vals (ns.map V.int) vs
 | _,_, .nil=> .nil
 | _,_, .cons n t h=> .cons ⟨t,rfl⟩ (u7 h)
def HZ(H:Hp):Prop:=∀b,H b=none∨∃o xs,H b=some (.sN o (.lst xs))
theorem Ce{cm:Bool}{P:Program}{w:World}{K:PySem.W.Frag}{mg mb:Str→Option Value}{CX:BX}{k:Nat}{fa a:Addr}{fd:FuncData}{x:Str}{sp:Sp}{bW:Shared}{vs:List Value}{ns:List Int}
  (KX:K.In bW.heap) (Nd:bW.heap.Ns mainGlobals mg) (hb:bW.heap.Ns builtinsNs mb) (TC:∀x:Str,x≠"__name__"→mb x=bootBuiltins x) (OZ:bW.heap.NoLimit) (hg:bW.gens=#[])
  (ha:bW.heap.get? a=some {cls:= .type "list",data:= .seq vs.toArray}) (hi:IntsAre vs ns) (hl:ns.length≤sizeLine) (hr:eK cm k callerA)
  (F:∀base:Heap,K.In base→base.Ns mainGlobals mg→a8 P w K mg base CX cm k fa fd [x] sp) (Lj:∀(s:Shared)(u:Value),BindsTo s fd ⟨[u],[]⟩ [(x,u)])
  (D0:∀H:Hp,HZ H→jb K H a (ns.map V.int)→sp [.ref a] H (fun v _=>v= .bl true) fun _ _ _=>False)
  (O0:∀H e s',CX [] H bW (fun _ _ _=>False) e s'→False):
  codeAny (model P w) callerA (.call (.ref fa) ⟨[.ref a],[]⟩) (fun r s'=>r= .ok (.ret (.bool true))∧OldK bW.heap s'.heap∧s'.os=bW.os∧AllBare s'.gens) bW:=by
 have rv:=u7 hi;have O1:=hi.length;have core:∀H:Hp,HZ H→jb K H a (ns.map V.int)→mH P w H bW.heap→(∀b,H b≠none→b=a)→(H a≠none→K.lookup a=none)→
   codeAny (model P w) callerA (.call (.ref fa) ⟨[.ref a],[]⟩) (fun r s'=>r= .ok (.ret (.bool true))∧OldK bW.heap s'.heap∧s'.os=bW.os∧AllBare s'.gens) bW:=by
  intro H hO hS bO hA hK;have ZC:∀{b:Addr}{o:Obj},bW.heap.get? b=some o→H b=none→(vA bW.heap H).get? b=some o:=fun e n=>BI e n
  have K6:∀{b:Addr}{o:Obj}{es:Array DictEntry}{ep:Nat},bW.heap.get? b=some o→o.data= .dict es ep→H b=none:=fun{b o es ep} e d=>by
   cases q:H b with
   |none=>rfl
   |some u=>
    have e':b=a:=hA b (by rw[q];simp);subst e';rw[ha]at e;cases e;have d':Data.seq vs.toArray _=Data.dict es ep:=d;cases d'
  have Nf:∀{b:Addr}{m:Str→Option Value},bW.heap.Ns b m→(vA bW.heap H).Ns b m:=fun{b m} ⟨o,es,ep,e,d,r⟩=>⟨o,es,ep,ZC e (K6 e d),d,r⟩
  have Rh:K.In (vA bW.heap H):=fun b o e=>ZC (KX b o e) (by
   cases q:H b with
   |none=>rfl
   |some u=>
    have e':b=a:=hA b (by rw[q];simp);subst e';rw[hK (by rw[q];simp)]at e;cases e)
  have hM:Mod K mg (vA bW.heap H):=⟨Rh,Nf Nd,⟨mb,Nf hb,TC⟩,let ⟨mc,h1,h2⟩:=OZ;⟨mc,Nf h1,h2⟩⟩
  have e0:XZ P w K mg (vA bW.heap H) callerA [] bW H:=⟨rfl,hM,fun b o e=>Eh e,Nat.le_of_eq (Ay _ _),trivial,fun b hb=>absurd (show b∈([]:List Addr)from hb) (XE),bO, .of_eq hg⟩
  refine codeAny_mono ((F _ Rh (Nf Nd)).run callerA [] bW H ⟨[.ref a],[]⟩ [.ref a] [.ref a] _ _ hr e0 (Lj bW (.ref a)) (.cons rfl .nil) (D0 H hO hS)) fun r s' h=>?_
  cases r with
  |error e=>exact(O0 H e s' h).elim
  |ok fl=>
   cases fl with
   |next=>exact False.elim h
   |brk=>exact False.elim h
   |cont=>exact False.elim h
   |ret u=>
    obtain⟨v,H',os,bare,un,O2,r',q⟩:=h;have q':v= .bl true:=q;subst q';obtain rfl:u=Value.bool true:=r';refine⟨rfl,OldK.of_keep fun b o e=>?_,os,bare⟩;cases q:H b with
    |none=>exact un.keep b o e q (by intro z;exact absurd (show b∈([]:List Addr)from z) (XE)) (XE)
    |some u=>
     rcases hO b with z|⟨ob,xs,z⟩
     ·rw[q]at z;cases z
     ·have z2:=un.pD b ob _ z;obtain⟨e1,_⟩:=bO b _ z;obtain⟨e2,_⟩:=O2 b _ z2;rw[e]at e1;cases e1;exact e2
 cases hk:K.lookup a with
 |some o=>
  have e:=KX a o hk;rw[ha]at e;cases e;refine core (fun _=>none) (fun _=> .inl rfl) (.inr ⟨_,vs.toArray,_,hk,rfl,rfl,rfl,by rw[List.size_toArray,O1];exact hl,by simpa using rv⟩) (fun b u z=>by have z':(none:Option HO)=some u:=z;cases z') (fun b z=>absurd rfl z) fun z=>absurd rfl z
 |none=>
  refine core (fun b=>if b=a then some (.sN {cls:= .type "list",data:= .seq vs.toArray} (.lst (ns.map V.int)))else none) (fun b=>?_) (.inl (.inr ⟨{cls:= .type "list",data:= .seq vs.toArray},if_pos rfl⟩)) (fun b u z=>?_) (fun b z=>?_) fun _=>hk
  ·by_cases hb:b=a
   ·exact .inr ⟨_,_,Xp hb⟩
   ·exact .inl (Xm hb)
  ·by_cases hb:b=a
   ·have z':=(Xp hb).symm.trans z;cases z';subst hb;exact⟨ha,by rw[List.length_map];exact hl,vs,_,rv,ha⟩
   ·have z':=(Xm hb).symm.trans z;cases z'
  ·by_cases hb:b=a
   ·exact hb
   ·exact absurd (Xm hb) z
theorem EH{cm:Bool}{l:PySem.W.OpenLaw}{n k:Nat}{q:Program}{loose:List Str}{XP:(Str→Option Value)→Heap→Prop}{YP:World→Heap→Prop}{d:DefRec}{K:Params→PySem.W.Frag}{CX:World→BX}{sp:World→Sp}{x:Str}
  (hn:l.most=some n) (wQ:n≤sizeLine) (Lh:d.params.defaults=[]) (hr:eK cm k callerA)
  (hY:∀(w:World)(h:Heap),YP w h→(K w.params).In h)
  (F:∀(w:World)(mg:Str→Option Value)(fa:Addr)(h:Heap),(K w.params).In h→h.Ns mainGlobals mg→mg d.name=some (.ref fa)→
   ∃fd:FuncData,(∀(s:Shared)(u:Value),BindsTo s fd ⟨[u],[]⟩ [(x,u)])∧
    ∀base:Heap,(K w.params).In base→base.Ns mainGlobals mg→a8 l.prog w (K w.params) mg base (CX w) cm k fa fd [x] (sp w))
  (D0:∀(w:World)(H:Hp)(a:Addr)(ns:List Int),ns.length≤n→HZ H→jb (K w.params) H a (ns.map V.int)→sp w [.ref a] H (fun v _=>v= .bl true) fun _ _ _=>False)
  (O0:∀(w:World)(H:Hp)(s:Shared)(e:Value)(s':Shared),CX w [] H s (fun _ _ _=>False) e s'→False):
  PySem.W.WalkO q loose XP YP l.row.toRowW d [] (fun f vs=>PySem.call f vs):=by
 refine Rg.Zs hn Lh fun w de bW mg mb fa o pm cd doc a vs ns G Y ho hd AA Li HY hints hlen hg=>?_
 have KX:=hY w _ Y;obtain⟨fd,hb,hF⟩:=F w mg fa _ KX G.T.g Li;exact Ce KX G.T.g G.T.b G.T.builtins G.T.nolimit hg HY hints (Nat.le_trans hlen wQ) hr hF hb (fun H hO hS=>D0 w H a ns hlen hO hS) fun H e s'=>O0 w H bW e s'
def inClass(s:Stmt)(j:Nat):Stmt:=match s with
 | .ClassDef _ _ _ body _ _ _ _ _ _ _=>body.getD j (.Pass ⟨0,0,0,0⟩)
 | _=> .Pass ⟨0,0,0,0⟩
def fo(s:Stmt):Arguments:=match s with
 | .FunctionDef _ a _ _ _ _ _ _ _ _=>a
 | _=>{posonlyargs:=[],args:=[],vararg:=none,kwonlyargs:=[],kw_defaults:=[],kwarg:=none,defaults:=[]}
def eA(s:Stmt):List Stmt:=match s with
 | .FunctionDef _ _ b _ _ _ _ _ _ _=>b
 | _=>[]
def aq(s:Stmt):Scope:=match s with
 | .FunctionDef _ _ _ _ _ _ sc _ _ _=>sc
 | _=>{kind:= .function,names:=[],isGenerator:=false,isCoroutine:=false}
abbrev E0:XK:=fun _ _ _=>False
structure lD(K:PySem.W.Frag)(x qual:Str)(st:Stmt)(f:Addr)(fd:FuncData):Prop where
 ex:∃(oc:Value)(od:Option Addr)(kV doc pm:Value)(an:Option Addr)(cj ct:Value)(XS:Array (Option Value)),
  fd=PySem.W.fnOf x qual (fo st) (eA st) (aq st) .none kV doc pm an cj ct∧K.lookup f=some ⟨oc,od, .func fd,XS⟩∧PySem.W.codeIn K cj qual=true
 kp:PySem.W.keepIn K (.ref f)=true
section
variable{P:Program}{w:World}{K:PySem.W.Frag}{mg:Str→Option Value}{base:Heap}
theorem lD.binds{x qual:Str}{st:Stmt}{f:Addr}{fd:FuncData}{ps:List Str}(F:lD K x qual st f fd)
  (h:∀(kV doc pm:Value)(an:Option Addr)(cj ct:Value)(us:List Value),us.length=ps.length→bindArgs (PySem.W.fnOf x qual (fo st) (eA st) (aq st) .none kV doc pm an cj ct) ⟨us,[]⟩=pure (ps.zip us)):Binds K fd ps []:=by
 obtain⟨oc,od,kV,doc,pm,an,cj,ct,XS,rfl,lk,AA⟩:=F.ex;exact .all (h kV doc pm an cj ct)
theorem Cf{x qual:Str}{st:Stmt}{f:Addr}{oc:Value}{od an:Option Addr}{XS:Array (Option Value)}{kV doc pm cj ct:Value}(l:K.lookup f=some ⟨oc,od, .func (PySem.W.fnOf x qual (fo st) (eA st) (aq st) .none kV doc pm an cj ct),XS⟩)
  (c:PySem.W.codeIn K cj qual=true) (k:PySem.W.keepIn K (.ref f)=true):lD K x qual st f (PySem.W.fnOf x qual (fo st) (eA st) (aq st) .none kV doc pm an cj ct):=⟨⟨oc,od,kV,doc,pm,an,cj,ct,XS,rfl,l,c⟩,k⟩
end
section
variable{X:Cx}
theorem pv(i:Nat){x:Str}{pos:Pos}(hN:X.N[i]?=some x:=by rfl)(hv:Ol X.env.scope x:=by first|exact Or.inl rfl|exact Or.inr (Or.inl rfl)|exact Or.inr (Or.inr rfl))(hd:(x==("__debug__":Str))=false:=by decide)
  (AA:(x==("__classdict__":Str))=false:=by decide):PE X (.Name x pos) (Hn i):=Ho hN hv hd AA
end
theorem jD{A B:Prop}(h:B):if false=true then A else B:=by
 rw[Xm Bool.false_ne_true];exact h
theorem mL{A B:Prop}(h:A):if true=true then A else B:=by
 rw[if_pos rfl];exact h
theorem ba{c A B:Prop}[Decidable c](h1:c→A)(h2:¬c→B):if c then A else B:=by
 by_cases h:c
 ·rw[Xp h];exact h1 h
 ·rw[Xm h];exact h2 h
def au(H H':Hp):Prop:=∀b o,H b=some o→H' b=some o
theorem au.refl(H:Hp):au H H:=fun _ _ h=>h
theorem au.trans{H H1 H2:Hp}(a:au H H1)(b:au H1 H2):au H H2:=fun c o h=>b c o (a c o h)
theorem au.free{H H':Hp}(e:au H H'){l:Addr}(h:H' l=Option.none):H l=Option.none:=by
 cases q:H l with
 |none=>rfl
 |some o=>
  rw[e l o q]at h;cases h
theorem au.seq{K:PySem.W.Frag}{H H':Hp}{a:Addr}{xs:List V}(e:au H H')(h:jb K H a xs):jb K H' a xs:=by
 rcases h with(h|⟨o,h⟩)|h
 ·exact .inl (.inl (e _ _ h))
 ·exact .inl (.inr ⟨o,e _ _ h⟩)
 ·exact .inr h
section
variable{κ:Type}[DecidableEq κ]
theorem Z5{kvs:List (κ×V)}{k:κ}(h:bo kvs k=none):¬k∈kvs.map (·.1):=by
 intro m;obtain⟨p,hp,e⟩:=List.mem_map.mp m;have q:(kvs.any fun kv=>decide (kv.1=k))=true:=List.any_eq_true.mpr ⟨p,hp,decide_eq_true e⟩;rw[iO,h]at q;exact absurd q Xy
theorem Yr{kvs:List (κ×V)}{k:κ}{v:V}(h:bo kvs k=some v):k∈kvs.map (·.1):=by
 have q:(kvs.any fun kv=>decide (kv.1=k))=true:=by
  rw[iO,h];all_goals rfl
 obtain⟨p,hp,e⟩:=List.any_eq_true.mp q;exact List.mem_map.mpr ⟨p,hp,of_decide_eq_true e⟩
end
end L2
namespace L2
open PySem PySem.Spec PyProof.Rows PySem.W
def dq(P:Program)(w:World):BX:=fun outer H s E e s'=>
 ∃(ea:Addr)(cls a0:Value)(B:Heap)(H':Hp),e= .ref ea∧s'.os=s.os∧AllBare s'.gens∧Heap.FlyingW B outer ea cls a0 s'.heap∧
  Un (pB outer) [] H H' s.heap s'.heap∧mH P w H' B∧(∀b o,s.heap.get? b=some o→H b=none→b∉pB outer→B.get? b=some o)∧(∀b o,s.heap.get? b=some o→b∉pB outer→∃o',B.get? b=some o')∧E cls none H'
theorem aR{P:Program}{w:World}{X:Cx}:Passes (dq P w) X (fun _=>E0):=fun _ _ _ _ _ _ _ ⟨_,_,_,_,_,_,_,_,_,_,_,_,_,h⟩=>h.elim
structure Ng(X:Cx)(E:St→XK):Prop where
 raise:∀(pins:List (Addr×Obj))(σ:St)(H:Hp)(s:Shared)(h':Heap)(e:Addr)(cls:Value)(args:List Value),Inv X pins σ H s→Heap.MadeExcOf s.heap h' e cls args→E σ cls none H→X.xe (.ref e) {s with heap:=h'}
 pass:Passes (dq X.prog X.w) X E
 own:PassesOwn (model X.prog X.w) X.A X.env X.xe
theorem mH.hide{P:Program}{w:World}{H:Hp}{h:Heap}{as:List Addr}(ok:mH P w H h)(hf:∀b∈as,H b=none):mH P w H (hideAll h as):=fun a o e=>
 (ok a o e).vz (fun b u hb q=>hideAll_get _ q fun hm=>by
  rcases hb with rfl|hb
  ·rw[hf _ hm]at e;cases e
  ·rw[hf _ hm]at hb;cases hb) (fun b q=>q) fun b xs q=>q
section
variable{P:Program}{w:World}{K:PySem.W.Frag}{mg:Str→Option Value}{base:Heap}{N:List Str}{qual:Str}{scope:Scope}{f:Addr}{cd:Value}{A:Around}{outer:List Env}{s:Shared}{H:Hp}{E:XK}{cm:Bool}
theorem Zc{P:Program}{w:World}{H:Hp}{h:Heap}{a:Addr}{o:HO}(x:cJ P w H h a o):∃q,h.get? a=some q:=by
 cases o with
 |lst xs=>obtain⟨_,its,n,_,e⟩:=x;exact⟨_,e⟩
 |tup xs=>obtain⟨_,its,_,o,e,_⟩:=x;exact⟨_,e⟩
 |dK kvs=>obtain⟨_,_,vs,_,o,es,ep,e,_⟩:=x;exact⟨_,e⟩
 |dT kvs=>obtain⟨_,_,xs,_,o,es,ep,e,_⟩:=x;exact⟨_,e⟩
 |set S n=>obtain⟨o,es,ep,t,e,_⟩:=x;exact⟨_,e⟩
 |ins C dx fs=>obtain⟨_,_,_,e,_⟩:=x;exact⟨_,e⟩
 |own y=>exact x
 |xd fs=>obtain⟨mA,⟨o,es,ep,e,_⟩,_⟩:=x;exact⟨_,e⟩
 |met f y=>exact⟨_,x⟩
 |M4 lo hi=>obtain⟨t,u,v,e⟩:=x;exact⟨_,e⟩
 |sN o u=>exact⟨_,x.1⟩
 |Ef ps=>exact⟨_,x⟩
 |ext φ=>exact x.2.1
theorem Ye:Ng (XW (dq P w) cm P w K mg base N qual scope f cd A outer s H E) (fun _=>E):=by
 refine⟨?_,?_,PassesOwn.leaving⟩
 ·intro pins σ H1 s1 h' e cls args I hx hE;have O3:(A.deeper (envOfC qual scope s.heap.objs.size f cd)).frames=some (envOfC qual scope s.heap.objs.size f cd::outer):=I.ok.frames;have uR:s1.heap.FunFrames base (envOfC qual scope s.heap.objs.size f cd::outer):=I.stack;have pC:∀env∈(envOfC qual scope s.heap.objs.size f cd::outer),∀b,env.frame=some b→b∈(envOfC qual scope s.heap.objs.size f cd::outer).filterMap (·.frame):=fun env he b hb=>List.mem_filterMap.mpr ⟨env,he,hb⟩
  have YF:∀b∈(envOfC qual scope s.heap.objs.size f cd::outer).filterMap (·.frame),H1 b=none:=I.vB;show wpAny (model P w) (A.deeper (envOfC qual scope s.heap.objs.size f cd)) (leaving (envOfC qual scope s.heap.objs.size f cd) (.ref e)) (fun _ vG=>dq P w outer H s E (.ref e) vG) (fun e' vG=>dq P w outer H s E e' vG) {s1 with heap:=h'};have XX:∀b o,s.heap.get? b=some o→b∉pB outer→b∉(envOfC qual scope s.heap.objs.size f cd::outer).filterMap (·.frame):=fun b o q hb hm=>by
   obtain⟨env,he,hf⟩:=List.mem_filterMap.mp hm;rcases List.mem_cons.mp he with rfl|he
   ·have z:s.heap.objs.size=b:=Option.some.inj hf;exact absurd (Heap.lt_size q) (by rw[z];exact Nat.lt_irrefl _)
   ·exact hb (List.mem_filterMap.mpr ⟨env,he,hf⟩)
  refine wpAny_leaves_madeW (s:={s1 with heap:=h'}) (h:=s1.heap) (base:=hideAll s1.heap ((envOfC qual scope s.heap.objs.size f cd::outer).filterMap (·.frame))) (L:=s.heap.objs.size) O3 rfl (fun b o q=>of_hideAll _ q) (funFrames_hide uR pC) hx fun h2 t x1 x2 x3 x4=>?_
  have bs:Un (pB outer) [] H H1 s.heap s1.heap:=I.base;have kB:∀b o,s.heap.get? b=some o→H b=none→b∉pB outer→(hideAll s1.heap ((envOfC qual scope s.heap.objs.size f cd::outer).filterMap (·.frame))).get? b=some o:=fun b o q hn hb=>
   hideAll_get _ (bs.keep b o q hn hb Xy) (XX b o q hb)
  have hB:mH P w H1 (hideAll s1.heap ((envOfC qual scope s.heap.objs.size f cd::outer).filterMap (·.frame))):=I.bO.hide YF;refine⟨e,cls, .ref t,_,H1,rfl,I.os,I.bare,x1,?_,hB,kB,fun b o q hb=>?_,hE⟩
  rotate_left
  ·obtain⟨o',e1⟩:=bs.there b o q Xy;exact⟨o',hideAll_get _ e1 (XX b o q hb)⟩
  refine⟨fun b o q hn hb _=>x1.1 b o (kB b o q hn hb),fun b o q hn hb _=>?_,fun b o q hn _=>bs.free b o q hn Xy,fun b o q _=>?_,bs.cq,bs.pD,bs.sj⟩
  ·obtain⟨sl,e1⟩:=bs.slot b o q hn hb Xy;have Gf:s1.heap.FunFrames base outer:=uR.2.2;obtain⟨_,o2,e2,EI⟩:=Gf.mem hb;rw[e1]at e2;cases e2;obtain⟨wU,e3⟩:=x4 b _ (hx.keeps _ _ e1) EI;exact⟨wU,e3⟩
  ·cases q1:H1 b with
   |some u=>
    obtain⟨oo,z⟩:=Zc (hB b u q1);exact⟨oo,x1.1 b oo z⟩
   |none=>
    cases q0:H b with
    |none=>
     by_cases hb:b∈pB outer
     ·obtain⟨sl,e1⟩:=bs.slot b o q q0 hb Xy;have Gf:s1.heap.FunFrames base outer:=uR.2.2;obtain⟨_,o2,e2,EI⟩:=Gf.mem hb;rw[e1]at e2;cases e2;obtain⟨wU,e3⟩:=x4 b _ (hx.keeps _ _ e1) EI;exact⟨_,e3⟩
     ·exact⟨o,x1.1 b o (kB b o q q0 hb)⟩
    |some u=>
     obtain⟨o',e1⟩:=bs.there b o q Xy;by_cases hb:b∈pB outer
     ·have Gf:s1.heap.FunFrames base outer:=uR.2.2;obtain⟨_,o2,e2,EI⟩:=Gf.mem hb;obtain⟨wU,e3⟩:=x4 b _ (hx.keeps _ _ e2) EI;exact⟨_,e3⟩
     ·exact⟨o',x1.1 b o' (hideAll_get _ e1 (XX b o q hb))⟩
 ·rintro pins σ H1 s1 e s2 I ⟨ea,cls,a0,B,H',rfl,os,bare,Nh,un,hB,kB,tB,hE⟩;have O3:(A.deeper (envOfC qual scope s.heap.objs.size f cd)).frames=some (envOfC qual scope s.heap.objs.size f cd::outer):=I.ok.frames;show wpAny (model P w) (A.deeper (envOfC qual scope s.heap.objs.size f cd)) (leaving (envOfC qual scope s.heap.objs.size f cd) (.ref ea)) (fun _ vG=>dq P w outer H s E (.ref ea) vG) (fun e' vG=>dq P w outer H s E e' vG) s2;have Nh:Heap.FlyingW B (envOfC qual scope s.heap.objs.size f cd::outer) ea cls a0 s2.heap:=Nh;have un:Un (pB (envOfC qual scope s.heap.objs.size f cd::outer)) [] H1 H' s1.heap s2.heap:=un;have kB:∀b o,s1.heap.get? b=some o→H1 b=none→b∉pB (envOfC qual scope s.heap.objs.size f cd::outer)→B.get? b=some o:=kB;have XX:∀b o,s.heap.get? b=some o→b∉pB outer→b∉pB (envOfC qual scope s.heap.objs.size f cd::outer):=fun b o q hb hm=>by
   obtain⟨env,he,hf⟩:=List.mem_filterMap.mp hm;rcases List.mem_cons.mp he with rfl|he
   ·have z:s.heap.objs.size=b:=Option.some.inj hf;exact absurd (Heap.lt_size q) (by rw[z];exact Nat.lt_irrefl _)
   ·exact hb (List.mem_filterMap.mpr ⟨env,he,hf⟩)
  have O4:∀b,b∈pB outer→b∈pB (envOfC qual scope s.heap.objs.size f cd::outer):=fun b hb=>by
   obtain⟨env,he,hf⟩:=List.mem_filterMap.mp hb;exact List.mem_filterMap.mpr ⟨env,List.mem_cons_of_mem _ he,hf⟩
  have bs:Un (pB outer) [] H H1 s.heap s1.heap:=I.base;refine wpAny_leaves_onW (L:=s.heap.objs.size) O3 rfl Nh fun h2 x1 x4=>?_
  have Ri:∀b o,s.heap.get? b=some o→H b=none→b∉pB outer→B.get? b=some o:=fun b o q hn hb=>kB b o (bs.keep b o q hn hb Xy) (bs.free b o q hn Xy) (XX b o q hb)
  have Gf:s2.heap.FunFrames B outer:=Nh.2.2.1.2.2;refine⟨ea,cls,a0,B,H',rfl,os.trans I.os,bare,x1,?_,hB,Ri,fun b o q hb=>?_,hE⟩
  rotate_left
  ·obtain⟨o',e1⟩:=bs.there b o q Xy;exact tB b o' e1 (XX b o q hb)
  refine⟨fun b o q hn hb _=>x1.1 b o (Ri b o q hn hb),fun b o q hn hb _=>?_,fun b o q hn _=>?_,fun b o q _=>?_,fun b xs q=>un.cq b xs (bs.cq b xs q),fun b o u q=>un.pD b o u (bs.pD b o u q),fun b ps q=>?_⟩
  ·obtain⟨sl,e1⟩:=bs.slot b o q hn hb Xy;obtain⟨Wz,e2⟩:=un.slot b _ e1 (bs.free b o q hn Xy) (O4 b hb) (XE);obtain⟨_,o2,e3,EI⟩:=Gf.mem hb;rw[e2]at e3;cases e3;obtain⟨wU,e4⟩:=x4 b _ e2 EI;exact⟨wU,e4⟩
  ·by_cases hb:b∈pB outer
   ·obtain⟨sl,e1⟩:=bs.slot b o q hn hb Xy;exact un.free b _ e1 (bs.free b o q hn Xy) (XE)
   ·exact un.free b o (bs.keep b o q hn hb Xy) (bs.free b o q hn Xy) (XE)
  ·obtain⟨o',e1⟩:=bs.there b o q Xy;obtain⟨o2,e2⟩:=un.there b o' e1 Xy;by_cases hb:b∈pB outer
   ·obtain⟨_,o3,e3,EI⟩:=Gf.mem hb;obtain⟨wU,e4⟩:=x4 b _ e3 EI;exact⟨_,e4⟩
   ·obtain⟨o3,e3⟩:=tB b o' e1 (XX b o q hb);exact⟨o3,x1.1 b o3 e3⟩
  ·obtain⟨more,z⟩:=bs.sj b ps q;obtain⟨Lk,z2⟩:=un.sj b _ z;exact⟨more++Lk,by rw[z2,Array.append_assoc]⟩
end
end L2
set_option maxHeartbeats 4000000
namespace L2
open PySem PySem.Spec PyProof.Rows PySem.W PySem.Calls Builtin Builtin.ObjectAttr Builtin.Getset_descriptor
section
variable{prog:Program}{w:World}{A:Around}{E:Value→Shared→Prop}{K:Frag}{x C:Addr}{o:Obj}{hh:Heap}{g:Array GenState}{d:Drawn}{t:Nat}{os:OsState}
end
structure Ll(K:Frag)(C:Addr):Prop where
 ex:excIn K C [.type "ValueError", .type "Exception", .type "BaseException", .type "object"] "ValueError.__new__"=true
 cl:findIn K (.ref C) "__class__"=some (some (.builtin "object.__class__"))
 ob:mroIn K C (.type "object")=some true
 be:mroIn K C (.type "BaseException")=some true
 ga:findIn K (.ref C) "__getattribute__"=some (some (.builtin "BaseException.__getattribute__"))
 gn:findIn K (.ref C) "__getattr__"=some none
 tu:instIn K (.ref C) (.type "tuple")=some false
 kp:keepIn K (.ref C)=true
end L2
namespace L2
open PySem PySem.Spec PyProof.Rows PySem.W PySem.Calls
theorem EJ{K:Frag}{h:Heap}{C:Addr}{Rj:List Value}{newId:String}(X:K.In h)(q:excIn K C Rj newId=true):
  ∃bm N nm qn bs hdct sn sub ab col dd k0 k1 k2 k3 k5 mN,h.get? C=some (excClassObj nm qn C N bs bm hdct sn sub ab col dd k0 k1 k2 k3 k5 newId)∧h.Ns N mN∧mN "__init__"=none∧OwnTail h Rj bm:=by
 unfold excIn at q;split at q
 ·rename_i dd cd sl ho
  split at q
  ·rename_i C' bm k0 k1 k2 k3 n k5 hm hs
   simp only[Bool.and_eq_true,beq_iff_eq,Bool.not_eq_true']at q;obtain⟨⟨⟨⟨⟨rfl,rfl⟩,Lm⟩,ht⟩,bO⟩,Ni⟩:=q;obtain⟨nm,bs,mro,ns,qn,hd,sn,sub,ab,col,del⟩:=cd;dsimp only at hm Lm bO Ni;subst hm Lm;have O5:sl=#[k0,k1,k2,k3,some (.builtin n),k5]:=by
    obtain⟨l⟩:=sl;simp only at hs;rw[hs]
   subst O5;exact⟨bm,ns,nm,qn,bs,hd,sn,sub,ab,col,dd,k0,k1,k2,k3,k5,_,X _ _ ho, .of_isNs (isNs_of_in X bO),nsMap_none_of_in X bO Ni,tail_of_in X ht⟩
  ·cases q
 ·cases q
section
variable{X:Cx}{x:Str}{np d_ pos:Pos}{e:Expr}{es:List Expr}{t:TA}{C:Addr}{E:St→XK}
def H_(C:Addr)(E:St→XK)(t:TA):TS:=fun _ σ H=>t σ H fun vs H1=>vs.length≤sizeLine∧E σ (.ref C) none H1
theorem jE(hX:Ng X E)(hc:X.calm=true)(hg:Gl X x)(hm:X.mg x=some (.ref C))(c:Ll X.K C)(ha:PA X (e::es) t)(vF:(x==("__debug__":Str))=false:=by decide)
  (he:starEach (e::es) X.env=(false,eval e X.env)::starEach es X.env:=by rfl) (rO:(backTo d_ (starEach es X.env)).any (·.1)=false:=by rfl):
  PS X (.Raise (some (.Call (.Name x np) (e::es) [] d_)) none pos) (H_ C E t):=by
 intro pins s σ H D I h;obtain⟨bm,N,nm,qn,bs,hdct,sn,sub,ab,col,dd,k0,k1,k2,k3,k5,mN,hC,hN,Ni,T⟩:=EJ I.ok.mod.JW c.ex;refine wpAny_Raise_call_subT (C:=C) (nm:=nm) (q:=qn) (N:=N) (bs:=bs) (bm:=bm) (hdct:=hdct) (sn:=sn) (sub:=sub) (ab:=ab) (col:=col) (dd:=dd) (k0:=k0) (k1:=k1) (k2:=k2) (k3:=k3) (k5:=k5)
  F.excBase_ValueError (mN:=mN) (T.hasType F.excBase_ValueError.hasBase) (I.ok.hd hc) (by rw[he];show(false||(backTo d_ (starEach es X.env)).any (·.1))=false;rw[rO];rfl) Ni (pE I hg hm ⟨rfl,?_⟩ vF)
 have hq:=cy (ha d_ pins s σ H _ I h) fun us s2 ⟨vs,H2,I2,r2,q2⟩=>show us.length≤sizeLine∧(∀b o,X.base.get? b=some o→s2.heap.get? b=some o)∧∀h' e,Heap.MadeExcOf s2.heap h' e (.ref C) us→X.xe (.ref e) {s2 with heap:=h'}from
  ⟨by rw[←r2.length];exact q2.1,I2.bk,fun h' e hx=>hX.raise pins σ H2 s2 h' e (.ref C) us I2 hx q2.2⟩
 rw[he]at hq⊢;exact evalArgs_plain (wpAny_mono hq (fun vs s2 h2=>⟨rfl,h2.1,h2.2.1 _ _ hC,hN.keeps h2.2.1,T.keeps h2.2.1,h2.2.2⟩) fun _ _ y=>y)
end
section
variable{X:Cx}{e v1 v2:Expr}{es:List Expr}{te:TE}{pos:Pos}
def O6(te:TE):TE:=fun σ H Q=>te σ H fun x H1=>(∃y,x= .str y∧y.length≤sizeLine∧Q (.str y) H1)∨∃i:Int,x= .int i∧i.natAbs.log2<1920∧Q (.str (toString i)) H1
theorem qO(h:PE X e te):PE X (.FormattedValue e (-1) none pos) (O6 te):=by
 intro pins s σ H Q I hq;refine FormattedValue_plain (cy (h pins s σ H _ I hq) fun u s1 ⟨x,H1,I1,r1,q1⟩=>?_);rcases q1 with⟨y,rfl,hy,q⟩|⟨i,rfl,hi,q⟩
 ·obtain⟨t,rfl⟩:=r1;exact formatField_str (fun t' tk=>⟨.str y,H1,I1.tok _,⟨_,rfl⟩,q⟩) hy
 ·obtain⟨t,rfl⟩:=r1;exact formatField_int_small hi ⟨.str (toString i),H1,I1.tok _,⟨_,rfl⟩,q⟩
abbrev TJ:=Str→TE
def PJ(X:Cx)(es:List Expr)(t:TJ):Prop:=
 ∀(acc:Str)(pins:List (Addr×Obj))(s:Shared)(σ:St)(H:Hp)(Q:VK),Inv X pins σ H s→t acc σ H Q→wpAny Xv X.A (joinParts acc (evalEach es X.env)) (EP X pins σ Q) X.xe s
def Ln:TJ:=fun acc _ H Q=>acc.length≤sizeLine∧Q (.str acc) H
def Ia(te:TE)(t:TJ):TJ:=fun acc σ H Q=>te σ H fun x H1=>∃y,x= .str y∧(acc++y).length≤sizeLine∧t (acc++y) σ H1 Q
theorem vP:PJ X [] Ln:=fun acc _ s σ H Q I h=>joinParts_nil ⟨.str acc,H,I.tok _,⟨_,rfl⟩,h.2⟩ h.1
theorem fq{t:TJ}(h1:PE X e te)(h2:PJ X es t):PJ X (e::es) (Ia te t):=by
 intro acc pins s σ H Q I h;refine joinParts_cons (cy (h1 pins s σ H _ I h) fun u s1 ⟨x,H1,I1,r1,y,e,hl,q⟩=>?_);subst e;obtain⟨tk,rfl⟩:=r1;exact⟨hl,h2 _ pins s1 σ H1 Q I1 q⟩
theorem nM{t:TJ}(h:PJ X (v1::v2::es) t):PE X (.JoinedStr (v1::v2::es) pos) (t Str.empty):=fun pins s σ H Q I hq=>JoinedStr_many (h Str.empty pins s σ H Q I hq)
end
abbrev Cx.Lo(X:Cx)(e:Addr):Cx:={X with A:=X.A.mark (some (.ref e)),calm:=false,xe:=fun _ _=>False}
section
variable{X:Cx}{pins:List (Addr×Obj)}{σ:St}{H:Hp}{s:Shared}{ea C:Addr}{B:Heap}{a0:Value}
end
abbrev TH:=Addr→TS
def Ends.drop(D:Ends)(i:Nat):Ends:={nx:=fun σ H=>D.nx (σ.set i none) H,rt:=D.rt,bk:=fun σ H=>D.bk (σ.set i none) H,ct:=fun σ H=>D.ct (σ.set i none) H}
section
variable{X:Cx}{x n:Str}{np pos:Pos}{b0:Stmt}{Lo:List Stmt}{rest:List ExceptHandler}{ts:TS}{tr:TH}{Dc:Addr}{i:Nat}
end
def fM(env:Env):List (Str×NameKind)→List (Str×Addr)→List (Str×Addr)
 |[],acc=>acc
 |(n,k)::r,acc=>if k= .free then fM env r ((n,(env.cells.lookup n).getD 0)::acc)else fM env r acc
theorem vQ{env:Env}{scope:Scope}(h:∀x∈scope.names,x.2= .free→∃c,env.cells.lookup x.1=some c):closureFor scope env=pure (fM env scope.names []):=by
 unfold closureFor
 suffices H:∀(l:List (Str×NameKind))(acc:List (Str×Addr)),(∀x∈l,x.2= .free→∃c,env.cells.lookup x.1=some c)→
   (forIn l acc fun(x:Str×NameKind)(cs:List (Str×Addr))=>if (x.2==NameKind.free)=true then do let c←cellOf env x.1;pure (ForInStep.yield ((x.1,c)::cs))else pure (ForInStep.yield cs):Sem (List (Str×Addr)))=pure (fM env l acc) by
  have:=H scope.names [] h;simpa using this
 intro l
 induction l with
 |nil=>intro acc _;rfl
 |cons x r ih=>
  intro acc hl;obtain⟨n,k⟩:=x;rw[List.forIn_cons];by_cases hk:k= .free
  ·subst hk;obtain⟨c,hc⟩:=hl (n, .free) List.mem_cons_self rfl;have Hm:env.cells.lookup n=some c:=hc;simp only[beq_self_eq_true,if_true,cellOf,Hm,fM,Option.getD_some];show(pure _>>=_)=_;rw[pure_bind];exact ih _ fun y hy=>hl y (List.mem_cons_of_mem _ hy)
  ·have hb:(k==NameKind.free)=false:=by simpa using hk
   simp only[hb,Bool.false_eq_true,if_false,fM,hk];rw[pure_bind];exact ih _ fun y hy=>hl y (List.mem_cons_of_mem _ hy)
theorem kY{env:Env}{x:Str}{c:Addr}:∀{l:List (Str×NameKind)}{acc:List (Str×Addr)},(∀y∈l,y.2= .free→∃c,env.cells.lookup y.1=some c)→
  (∀y d,acc.lookup y=some d→env.cells.lookup y=some d)→(fM env l acc).lookup x=some c→env.cells.lookup x=some c
 |[],acc,_,ha,h=>ha x c h
 |(n,k)::r,acc,hl,ha,h=>by
  unfold fM at h;have hr:∀y∈r,y.2= .free→∃c,env.cells.lookup y.1=some c:=fun y hy=>hl y (List.mem_cons_of_mem _ hy)
  split at h
  ·rename_i hk
   obtain⟨d,hd⟩:=hl (n,k) List.mem_cons_self hk;refine kY hr (fun y e he=>?_) h;rw[List.lookup_cons]at he;split at he
   ·rename_i q
    have q':y=n:=by simpa using q
    subst q';have JX:env.cells.lookup y=some d:=hd;rw[JX,Option.getD_some]at he;cases he;exact JX
   ·exact ha y e he
  ·exact kY hr ha h
theorem pO{env:Env}{x:Str}:∀{l:List (Str×NameKind)}{acc:List (Str×Addr)},((x,NameKind.free)∈l∨∃c,acc.lookup x=some c)→∃c,(fM env l acc).lookup x=some c
 |[],acc,h=>by
  rcases h with h|h
  ·simp at h
  ·exact h
 |(n,k)::r,acc,h=>by
  unfold fM;split
  ·rename_i hk
   refine pO ?_;rcases h with h|⟨c,h⟩
   ·rcases List.mem_cons.mp h with e|e
    ·injection e with e1 e2;subst e1;exact .inr ⟨(env.cells.lookup x).getD 0,by simp[List.lookup_cons]⟩
    ·exact .inl e
   ·by_cases q:x=n
    ·subst q;exact .inr ⟨(env.cells.lookup x).getD 0,by simp[List.lookup_cons]⟩
    ·refine .inr ⟨c,?_⟩;rw[List.lookup_cons];have:(x==n)=false:=by simpa using q
     rw[this];exact h
  ·rename_i hk
   refine pO ?_;rcases h with h|h
   ·rcases List.mem_cons.mp h with e|e
    ·injection e with e1 e2;exact absurd e2.symm hk
    ·exact .inl e
   ·exact .inr h
theorem pQ{env:Env}{x:Str}:∀{names:List (Str×NameKind)},names.lookup x=some .free→
  (names.map fun(n,k)=>if (k==NameKind.free&&env.scope.kind== .function&&env.kindOf n==some .cell)then(n,NameKind.cell)else(n,k)).lookup x=some .cell∨
  (names.map fun(n,k)=>if (k==NameKind.free&&env.scope.kind== .function&&env.kindOf n==some .cell)then(n,NameKind.cell)else(n,k)).lookup x=some .free
 |[],h=>by simp at h
 |(n,k)::r,h=>by
  have ih:=@pQ env x r;show List.lookup x ((if (k==NameKind.free&&env.scope.kind== .function&&env.kindOf n==some .cell)=true then(n,NameKind.cell)else(n,k))::_)=_∨List.lookup x ((if (k==NameKind.free&&env.scope.kind== .function&&env.kindOf n==some .cell)=true then(n,NameKind.cell)else(n,k))::_)=_;rw[List.lookup_cons]at h;by_cases hc:(k==NameKind.free&&env.scope.kind== .function&&env.kindOf n==some .cell)=true
  ·rw[Xp hc,List.lookup_cons];cases hx:x==n with
   |true=>exact .inl rfl
   |false=>rw[hx]at h;exact ih h
  ·rw[Xm hc,List.lookup_cons];cases hx:x==n with
   |true=>rw[hx]at h;exact .inr h
   |false=>rw[hx]at h;exact ih h
theorem pR{env:Env}{x:Str}:∀{names:List (Str×NameKind)},(∀y∈names,y.2≠ .cell)→
  ((names.map fun(n,k)=>if (k==NameKind.free&&env.scope.kind== .function&&env.kindOf n==some .cell)then(n,NameKind.cell)else(n,k)).lookup x=some .cell∨
  (names.map fun(n,k)=>if (k==NameKind.free&&env.scope.kind== .function&&env.kindOf n==some .cell)then(n,NameKind.cell)else(n,k)).lookup x=some .free)→(x,NameKind.free)∈names
 |[],_,h=>by simp at h
 |(n,k)::r,hc,h=>by
  have ih:=@pR env x r fun y hy=>hc y (List.mem_cons_of_mem _ hy)
  have h2:List.lookup x ((if (k==NameKind.free&&env.scope.kind== .function&&env.kindOf n==some .cell)=true then(n,NameKind.cell)else(n,k))::_)=_∨List.lookup x ((if (k==NameKind.free&&env.scope.kind== .function&&env.kindOf n==some .cell)=true then(n,NameKind.cell)else(n,k))::_)=_:=h;clear h;by_cases hq:(k==NameKind.free&&env.scope.kind== .function&&env.kindOf n==some .cell)=true
  ·rw[Xp hq,List.lookup_cons]at h2;cases hx:x==n with
   |true=>
    have e:x=n:=by simpa using hx
    subst e;have hk:k= .free:=by
     rw[Bool.and_eq_true,Bool.and_eq_true]at hq;simpa using hq.1.1
    subst hk;exact List.mem_cons_self
   |false=>rw[hx]at h2;exact List.mem_cons_of_mem _ (ih h2)
  ·rw[Xm hq,List.lookup_cons]at h2;cases hx:x==n with
   |true=>
    rw[hx]at h2;have e:x=n:=by simpa using hx
    subst e;rcases h2 with h|h
    ·have h':some k=some NameKind.cell:=h;exact absurd (Xs h') (hc (x,k) List.mem_cons_self)
    ·have h':some k=some NameKind.free:=h;rw[Xs h'];exact List.mem_cons_self
   |false=>rw[hx]at h2;exact List.mem_cons_of_mem _ (ih h2)
def gh(X:Cx)(scope:Scope)(N:List Str)(de:Shared)(eL:Hp)(C:Addr)(fp:List Addr)(pn:List (Addr×Obj)):Cx:=
 {X with N:=N,de:=de,eL:=eL,env:=compEnvC scope (fM X.env scope.names []) C X.env,outer:=X.stack,ex:=fp,fn:=fun _=>false,pn:=pn,xe:=fun _ _=>False}
structure bD(N:List Str)(sc:Scope)(scope:Scope)(ls:List Str)(js:List Nat)(cs:List Str):Prop where
 kind:scope.kind= .function
 Gg:∀x∈scope.names,x.2≠ .cell
 names:∀x∈scope.names,x.2= .local→scope.names.lookup x.1=some .local
 loc:∀x∈ls,scope.names.lookup x=some .local
 at_:cs=js.filterMap (N[·]?)
 len:cs.length=js.length
 O7:∀x∈cs,scope.names.lookup x=some .free∧(sc.names.lookup x=some .cell∨sc.names.lookup x=some .free)
 free:∀x∈scope.names,x.2= .free→(sc.names.lookup x.1=some .cell∨sc.names.lookup x.1=some .free)
 nd:(ls++cs).Nodup
section
variable{X:Cx}{pins:List (Addr×Obj)}{σ:St}{H:Hp}{s:Shared}{scope:Scope}{ls cs:List Str}{js:List Nat}{fp:List Addr}
theorem bD.has(S:bD X.N X.env.scope scope ls js cs)(ok:X.Ok):∀x∈scope.names,x.2= .free→∃c,X.env.cells.lookup x.1=some c:=fun x hx hf=>ok.has x.1 (S.free x hx hf)
def mM(ls:List Str)(js:List Nat)(σ:St):St:=ls.map (fun _=>none)++js.map fun j=>(σ[j]?).join
theorem EK(S:bD X.N X.env.scope scope ls js cs)(I:Inv X pins σ H s)(hf:∀b∈fp,iX X pins H b)(hl:∀b∈fp,b<s.heap.objs.size):(gh X scope (ls++cs) s H s.heap.objs.size fp (X.pn++pins)).Ok:=by
 have tG:∀{x:Str}{c:Addr},(fM X.env scope.names []).lookup x=some c→X.env.cells.lookup x=some c:=fun{x c} h=>kY (S.has I.ok) (fun y d h=>by simp at h) h
 refine⟨I.ok.mod,S.kind,I.ok.glob,I.ok.blt,Nat.le_refl _,fun x y c h1 h2=>I.ok.inj x y c (tG h1) (tG h2),fun x h=>pO (.inl (pR S.Gg h)),(fun x c h=>Bool.noConfusion (show false=true from h)),I.ok.hd,I.ok.frames, .inl rfl,fun b hb=>⟨Nat.ne_of_lt (hl b hb),fun x c h=>(hf b hb).2.2.2.2.1 x c (tG h)⟩,
  I.bs,Nat.le_trans I.ok.Hi I.sz,fun b o e hb=>?_,fun b hb hm=>?_,I.stack,I.vB⟩
 ·rcases(hf b hb).2.2.2.1 with z|z
  ·exact I.ok.Hj b o e z
  ·exact absurd (Nat.lt_of_lt_of_le (Heap.lt_size e) I.ok.Hi) (Nat.not_lt.mpr z)
 ·rcases List.mem_cons.mp (I.sZ b hm)with z|z
  ·exact(hf b hb).2.1 z
  ·exact(hf b hb).2.2.1 z
theorem Cg{h1:Heap}{m:Str→Option Value}(S:bD X.N X.env.scope scope ls js cs)(I:Inv X pins σ H s)(hf:∀b∈fp,iX X pins H b)(hl:∀b∈fp,b<s.heap.objs.size)
  (hn:h1.Ns s.heap.objs.size m) (hk:∀b o,s.heap.get? b=some o→h1.get? b=some o):
  Inv (gh X scope (ls++cs) s H s.heap.objs.size fp (X.pn++pins)) [] (mM ls js σ) H {s with heap:=h1}:=by
 have tG:∀{x:Str}{c:Addr},(fM X.env scope.names []).lookup x=some c→X.env.cells.lookup x=some c:=fun{x c} h=>kY (S.has I.ok) (fun y d h=>by simp at h) h
 have len:(mM ls js σ).length=(ls++cs).length:=by
  unfold mM;rw[List.length_append,List.length_append,List.length_map,List.length_map,S.len]
 refine⟨EK S I hf hl,rfl,I.bare,Un.kept hk,⟨m,hn,fun i x v e1 e2 e3=>?_⟩,fun x c e=>?_,I.bO.fresh (Nat.le_refl _),fun x c e=>I.oj x c (tG e),fun p hp=>?_,I.bO.kept hk,len⟩
 ·have e1:(ls++cs)[i]?=some x:=e1;unfold mM at e2;by_cases hi:i<ls.length
  ·rw[List.getElem?_append_left (by simpa using hi),List.getElem?_map]at e2;cases q:ls[i]? with
   |none=>rw[q]at e2;cases e2
   |some y=>rw[q]at e2;cases e2
  ·have XQ:ls.length≤i:=Nat.not_lt.mp hi;rw[List.getElem?_append_right (by simpa using XQ),List.getElem?_map,List.length_map]at e2;rw[List.getElem?_append_right XQ]at e1;obtain⟨Rk,vR⟩:=S.O7 x (Xj e1);cases q:js[i-ls.length]? with
   |none=>rw[q]at e2;cases e2
   |some j=>
    rw[q]at e2;have e2:(σ[j]?).join=some v:=Xs e2;have eN:X.N[j]?=some x:=by
     have aux:∀(js:List Nat)(cs:List Str)(i:Nat),cs=js.filterMap (X.N[·]?)→cs.length=js.length→∀j x,js[i]?=some j→cs[i]?=some x→X.N[j]?=some x:=by
      intro js
      induction js with
      |nil=>intro cs i _ _ j x hj _;simp at hj
      |cons a r ih=>
       intro cs i he hl j x hj hx;rw[List.filterMap_cons]at he;cases qa:X.N[a]? with
       |none=>
        rw[qa]at he;have hle:=List.length_filterMap_le (X.N[·]?) r;simp only at he;rw[he,List.length_cons]at hl;omega
       |some y=>
        rw[qa]at he;simp only at he;subst he;cases i with
        |zero=>
         simp at hj hx;subst hj hx;exact qa
        |succ i=>exact ih _ i rfl (by simpa using hl) j x (by simpa using hj) (by simpa using hx)
     exact aux js cs _ S.at_ S.len j x q e1
    obtain⟨mX,_,TK⟩:=I.loc;have TL:σ[j]?=some (some v):=by
     cases z:σ[j]? with
     |none=>rw[z]at e2;cases e2
     |some w=>rw[z]at e2;rw[show w=some v from e2]
    obtain⟨u,r,l⟩:=TK j x v eN TL (vR.elim (fun z=> .inr (.inl z)) fun z=> .inr (.inr z));refine⟨u,r,?_⟩;rcases l with⟨z,_⟩|⟨_,c,z1,o,z2,z3⟩
    ·have z:X.env.scope.names.lookup x=some .local:=z;rcases vR with w|w<;>(rw[z]at w;cases w)
    ·refine .inr ⟨pQ Rk,c,?_,o,hk c o z2,z3⟩;obtain⟨c',Hm⟩:=pO (env:=X.env) (l:=scope.names) (acc:=[]) (x:=x) (.inl (PySem.mem_of_lookup Rk));have:=tG Hm;rw[z1]at this;cases this;exact Hm
 ·obtain⟨v,o,z1,z2⟩:=I.cell x c (tG e);exact⟨v,o,hk c o z1,z2⟩
 ·have hp:p∈X.pn++pins:=by simpa[gh]using hp
  obtain⟨e,n,ne,nf,d⟩:=I.pin p hp;refine⟨hk _ _ e,n,Nat.ne_of_lt (Heap.lt_size e),fun hm=>?_,d⟩;rcases List.mem_cons.mp (I.sZ p.1 hm)with z|z
  ·exact ne z
  ·exact nf z
end
section
variable{prog:Program}{w:World}{A:Around}{R:Result→Shared→Prop}{s:Shared}
theorem vS{elt target iter:Expr}{ifs:List Expr}{scope:Scope}{pos:Pos}{it acc:Value}{env:Env}(L:Nat→Shared→Prop)
  (turn:∀n s,L n s→wpAny Xx A (pyNext it) (fun r bW=>match r with
   |none=>R (.ok .next) bW
   |some v=>wpAny Xx A (letOwnedTupleGo target it v) (fun _ Gh=>wpAny Xx A (assign target env v) (fun _ qG=>
     wpAny Xx A (forIn ifs true fun c r=>if r=true then do let ok←isTrue c env (eval c env);pure (ForInStep.yield ok)else pure (ForInStep.yield r)) (fun ok AN=>
      if ok=true then wpAny Xx A (eval elt env) (fun x Lp=>
       wpAny Xx A (call (.builtin "list.append") [acc,x]) (fun _ Lq=>∃m,m<n∧L m Lq) (fun _ _=>False) Lp) (fun _ _=>False) AN
      else ∃m,m<n∧L m AN) (fun _ _=>False) qG) (fun _ _=>False) Gh) (fun _ _=>False) bW) (fun _ _=>False) s)
  (n:Nat) (h:L n s):codeAny Xx A (.compLoop (.ListComp elt [⟨target,iter,ifs,0⟩] scope pos) 0 it acc env) R s:=by
 refine codeAny_loop rfl L (fun n s hI=>?_) n h;show wpAny _ A ((compTurn (.ListComp elt [⟨target,iter,ifs,0⟩] scope pos) 0 it acc env).onRaise (fun x=>do noteFrame x env;theTreesLotGoes x)) _ _ s;refine wpAny_noted ?_;rw[compTurn_list];refine wpAny_mono (E:=fun _ _=>False) ?_ (fun _ _ q=>q) fun _ _ z=>False.elim z
 refine wpAny_bind (wpAny_standAt (wpAny_bind (wpAny_mono (turn n s hI) (fun r bW AM=>?_) fun _ _ h'=>h')));cases r with
 |none=>exact wpAny_pure AM
 |some v=>
  refine wpAny_bind (wpAny_mono AM (fun _ Gh AM=>?_) fun _ _ h'=>h');refine wpAny_bind (wpAny_mono AM (fun _ qG B1=>wpAny_bind (wpAny_mono B1 (fun ok AN Ez=>?_) fun _ _ h'=>h')) fun _ _ h'=>h');cases ok with
  |false=>exact wpAny_pure ⟨rfl,Ez⟩
  |true=>
   exact wpAny_bind (wpAny_bind (wpAny_mono Ez (fun x Lp O8=>wpAny_bind (wpAny_mono O8 (fun _ Lq O9=>wpAny_pure (wpAny_pure ⟨rfl,O9⟩)) fun _ _ h'=>h')) fun _ _ h'=>h'))
end
def Lr(X:Cx)(ifs:List Expr)(t:TT):Prop:=
 ∀(pins:List (Addr×Obj))(s:Shared)(σ:St)(H:Hp)(Q:Bool→Hp→Prop),Inv X pins σ H s→t σ H Q→
  wpAny Xv X.A (forIn ifs true fun c r=>if r=true then do let ok←isTrue c X.env (eval c X.env);pure (ForInStep.yield ok)else pure (ForInStep.yield r)) (TP X pins σ Q) X.xe s
def Ib:TT:=fun _ H Q=>Q true H
theorem j8{X:Cx}:Lr X [] Ib:=fun _ _ _ H _ I h=>wpAny_tests_nil ⟨H,I,h⟩
theorem ZE{X:Cx}{c:Expr}{t:TT}(h:PT X c t):Lr X [c] t:=fun pins s σ H Q I hq=>wpAny_tests_one (h pins s σ H Q I hq)
def tH(J:It)(ls:List Str)(js:List Nat)(g:TG)(tt:TT)(te:TE)(σ:St)(H1:Hp)(D:Addr)(Q:VK):Prop:=
 ∃W:Nat→Nat→List V→St→Hp→Prop,(∃m,W 0 m [] (mM ls js σ) (upd H1 D (.lst [])))∧∀i m ys bF H',W i m ys bF H'→
 (J.stop i H'∧Q (.ref D) H')∨(J.go i H'∧∃N:List V→St→Hp→Prop,(∀Gi gc H2,N Gi gc H2→∃m',m'<m∧W (i+1) m' Gi gc H2)∧∀x H2,J.Ej i H' x H2→g x bF H2 fun gc H3=>tt gc H3 fun b H4=>
  if b=true then te gc H4 fun y H5=>H5 D=some (.lst ys)∧ys.length<sizeLine∧N (ys++[y]) gc (upd H5 D (.lst (ys++[y])))else N ys gc H4)
def Ci(wi:TI)(ls:List Str)(js:List Nat)(g:TG)(tt:TT)(te:TE):TE:=fun σ H Q=>wi σ H fun J H1=>∀D,H1 D=none→tH J ls js g tt te σ H1 D Q
section
variable{X:Cx}{tg iter elt:Expr}{ifs:List Expr}{scope:Scope}{pos:Pos}{wi:TI}{g:TG}{tt:TT}{te:TE}{ls cs:List Str}{js:List Nat}
theorem u9{pins:List (Addr×Obj)}{s:Shared}{σ:St}{H:Hp}{Q:VK}{use:Option (Value→Sem Unit)}{QQ:Value→Shared→Prop}(hc:X.calm=true)(S:bD X.N X.env.scope scope ls js cs)(hi:PI X tg iter wi)
  (hg:∀de eL C fp pn,PG (gh X scope (ls++cs) de eL C fp pn) tg g) (ht:∀de eL C fp pn,Lr (gh X scope (ls++cs) de eL C fp pn) ifs tt) (he:∀de eL C fp pn,PE (gh X scope (ls++cs) de eL C fp pn) elt te)
  (I:Inv X pins σ H s) (h:Ci wi ls js g tt te σ H Q)
  (O_:∀(D C:Addr)(H':Hp)(s':Shared)(m:Str→Option Value),Inv X pins σ H' s'→Q (.ref D) H'→s'.heap.Ns C m→iX X pins H' C→compPost Xv X.A X.xe use QQ (.ref D) C (.ok .next) s')
  (hs:∀x,foldedSetIterable iter X.env x=pure x:=by intro _;rfl):
  wpAny Xv X.A (comprehension (.ListComp elt [⟨tg,iter,ifs,0⟩] scope pos) scope X.env (firstIterPos [⟨tg,iter,ifs,0⟩] pos) (newList []) false (eval iter X.env) use) QQ X.xe s:=by
 refine wpAny_comprehension_free rfl hs (vQ (S.has I.ok)) S.kind S.names (cy (hi pins s σ H _ I h) fun v s1 h1=>cy h1 fun OF s2 h2=>?_);obtain⟨it,fp,tn,J,H2,rfl,I2,T,dG,f2,hW⟩:=h2;have Rl:∀b∈fp,b<s2.heap.objs.size:=fun b hb=>by
  obtain⟨o,e,_⟩:=T.obj 0 _ dG b hb;exact Heap.lt_size e
 refine wpAny_newObj_type ?_;have hD:H2 s2.heap.objs.size=none:=I2.bO.fresh (Nat.le_refl _);obtain⟨W,⟨m0,w0⟩,turn⟩:=hW _ hD;have I3:Inv X pins σ (upd H2 s2.heap.objs.size (.lst [])) {s2 with heap:=s2.heap.push {cls:= .type "list",dict:=none,data:= .seq ([]:List Value).toArray}}:=
  I2.laid (t':=s2.toks) (fun b u e=>Xo e) (Nat.le_refl _) ⟨Nat.zero_le _,[],0, .nil,Heap.get?_push_size _ rfl⟩
 have f3:∀b∈fp,iX X pins (upd H2 s2.heap.objs.size (.lst [])) b:=fun b hb=>⟨by rw[ai (Nat.ne_of_lt (Rl b hb))];exact(f2 b hb).1,(f2 b hb).2⟩
 generalize WA:upd H2 s2.heap.objs.size (.lst [])=H3 at I3 f3 w0;generalize Ls:({s2 with heap:=s2.heap.push {cls:= .type "list",dict:=none,data:= .seq ([]:List Value).toArray}}:Shared)=s3 at I3;have Ro:∀b∈fp,b<s3.heap.objs.size:=fun b hb=>by
  rw[←Ls];show b<(s2.heap.push _).objs.size;rw[Heap.size_push];exact Nat.lt_succ_of_lt (Rl b hb)
 have BN:tn 0 s3.heap:=T.keep 0 _ _ dG fun b hb o e=>by rw[←Ls];exact Xo e
 refine wpAny_newFunctionEnv S.Gg (by intro y hy;simp at hy) (fun h4 Nd Lu=>?_) S.kind;have k4:∀b o,s3.heap.get? b=some o→h4.get? b=some o:=fun b o e=>Lu.extBut b o (Nat.ne_of_lt (Heap.lt_size e)) (Xo e)
 have I4:=Cg (h1:=h4) S I3 f3 Ro Nd k4;have TN:=I4.tok (s3.toks+([]:List (Str×Value)).length);have Nj:tn 0 h4:=T.keep 0 _ _ BN fun b hb o e=>k4 b o e
 show codeAny Xv X.A (.compStart (.ListComp elt [⟨tg,iter,ifs,0⟩] scope pos) 0 (.ref it) (.ref s2.heap.objs.size) (compEnvC scope (fM X.env scope.names []) s3.heap.objs.size X.env)) (compPost Xv X.A X.xe use QQ (.ref s2.heap.objs.size) s3.heap.objs.size) _;have XU:∀{H':Hp},(∀b∈fp,H' b=none)→∀b∈fp,iX (gh X scope (ls++cs) s3 H3 s3.heap.objs.size fp (X.pn++pins)) [] H' b:=fun{H'} hn b hb=>by
  obtain⟨q1,q2,q3,q4,q5,q6⟩:=f3 b hb;refine⟨hn b hb,Nat.ne_of_lt (Ro b hb),fun hm=>?_, .inl hb,fun x c e=>q5 x c (kY (S.has I.ok) (fun y d z=>by simp at z) e),fun p hp=>q6 p (by simpa[gh]using hp)⟩;rcases List.mem_cons.mp (I3.sZ b hm)with z|z
  ·exact q2 z
  ·exact q3 z
 have loop:codeAny Xv X.A (.compLoop (.ListComp elt [⟨tg,iter,ifs,0⟩] scope pos) 0 (.ref it) (.ref s2.heap.objs.size) (compEnvC scope (fM X.env scope.names []) s3.heap.objs.size X.env)) (compPost Xv X.A X.xe use QQ (.ref s2.heap.objs.size) s3.heap.objs.size)
   {s3 with heap:=h4,toks:=s3.toks+([]:List (Str×Value)).length}:=by
  refine vS (fun n s'=>∃i bF H',Inv (gh X scope (ls++cs) s3 H3 s3.heap.objs.size fp (X.pn++pins)) [] bF H' s'∧tn i s'.heap∧(∀b∈fp,H' b=none)∧∃ys,W i n ys bF H') ?_ m0 ⟨0,_,_,TN,Nj,fun b hb=>(f3 b hb).1,[],w0⟩;rintro n s5 ⟨i,Nk,H5,I5,J1,M_,ys,w5⟩;rcases turn i n ys Nk H5 w5 with⟨stop,qn⟩|⟨go,N,hN,step⟩
  ·refine cy (T.done (gh X scope (ls++cs) s3 H3 s3.heap.objs.size fp (X.pn++pins)) rfl rfl rfl hc i [] s5 Nk H5 (fun _ _=>False) I5 (XU M_) J1 stop) fun r s6 ⟨hr,I6⟩=>?_
   subst hr;obtain⟨m,hm,_⟩:=id I6.loc;have un:Un (pB X.stack) fp H3 H5 s3.heap s6.heap:=I6.base;have I7:Inv X pins σ H5 s6:=I3.KH (ch:=fp) I6.os un I6.bO I6.bare fun b hb=>by
    obtain⟨q1,q2,q3,q4,q5,q6⟩:=f3 b hb;exact⟨q4,q2,q5,q6⟩
   have fc:iX X pins H5 s3.heap.objs.size:=I3.uq (Nat.le_refl _) I6.free;exact O_ _ _ H5 s6 m I7 qn hm fc
  ·refine cy (T.item (gh X scope (ls++cs) s3 H3 s3.heap.objs.size fp (X.pn++pins)) rfl rfl rfl hc i [] s5 Nk H5 (fun _ _=>False) I5 (XU M_) J1 go) fun r s6 ⟨u,hr,h6⟩=>?_
   subst hr;refine cy h6 fun _ s7 ⟨x,H7,I7,r7,y7,Pa,TQ⟩=>?_
   have TU:=I7.pinned (XU TQ) (T.obj _ _ Pa);refine cy (hg _ _ _ _ _ _ s7 Nk H7 x u _ TU r7 (step x H7 y7)) fun _ s8 ⟨Nl,H8,I8,q8⟩=>?_
   refine cy (ht _ _ _ _ _ _ s8 Nl H8 _ I8 q8) fun b s9 ⟨H9,I9,q9⟩=>?_
   have again:∀{Gi:List V}{bF:St}{H':Hp}{s':Shared},Inv (gh X scope (ls++cs) s3 H3 s3.heap.objs.size fp (X.pn++pins)) ([]++tf fp s7.heap) bF H' s'→N Gi bF H'→
     ∃m,m<n∧∃i bF H',Inv (gh X scope (ls++cs) s3 H3 s3.heap.objs.size fp (X.pn++pins)) [] bF H' s'∧tn i s'.heap∧(∀b∈fp,H' b=none)∧∃ys,W i m ys bF H':=fun{Gi bF H' s'} I' n'=>by
    obtain⟨m',Gj,w'⟩:=hN Gi bF H' n';refine⟨m',Gj,i+1,bF,H',I'.mJ,T.keep _ _ _ Pa fun b hb o e=>(I'.pin (b,o) (List.mem_append_right _ (List.mem_append_right _ (g9 hb e)))).1,fun b hb=>?_,Gi,w'⟩;obtain⟨o,e,d⟩:=T.obj _ _ Pa b hb;exact(I'.pin (b,o) (List.mem_append_right _ (List.mem_append_right _ (g9 hb e)))).2.1
   cases b with
   |false=>exact again I9 q9
   |true=>
    refine cy (he _ _ _ _ _ _ s9 Nl H9 _ I9 q9) fun u2 TX ⟨y,TY,T8,T9,T_,hz,Ua⟩=>?_
    refine cy (bJ _ TX Nl TY (.ref s2.heap.objs.size) [y] (.ref s2.heap.objs.size) [u2] (fun _ H'=>N (ys++[y]) Nl H') T8 rfl (.cons T9 .nil) ⟨_,ys,y,rfl,rfl,T_,hz,Ua⟩) fun _ WB ⟨_,WC,Ub,_,Uc⟩=>?_
    exact again Ub Uc
 exact codeAny_compStart_list loop (T.self _ 0 _ _ _ Nj loop)
theorem pS(hc:X.calm=true)(S:bD X.N X.env.scope scope ls js cs)(hi:PI X tg iter wi)
  (hg:∀de eL C fp pn,PG (gh X scope (ls++cs) de eL C fp pn) tg g) (ht:∀de eL C fp pn,Lr (gh X scope (ls++cs) de eL C fp pn) ifs tt) (he:∀de eL C fp pn,PE (gh X scope (ls++cs) de eL C fp pn) elt te)
  (hs:∀x,foldedSetIterable iter X.env x=pure x:=by intro _;rfl):PE X (.ListComp elt [⟨tg,iter,ifs,0⟩] scope pos) (Ci wi ls js g tt te):=by
 intro pins s σ H Q I h;rw[eval_ListComp];refine u9 (use:=none) hc S hi hg ht he I h (fun D C H' s' m I' q hm fc=>⟨m,hm,fun h' Lu=>?_⟩) hs;obtain⟨q1,q2,q3,q4,q5,q6⟩:=fc;exact⟨.ref D,H',I'.turned (t':=s'.toks) (fun b o hb e=>Lu.extBut b o hb e) q1 (Ne.symm (Ne.symm q2)) q4 q5 q6,rfl,q⟩
theorem pT{x:Str}{i:Nat}{pos' Lv:Pos}(hc:X.calm=true)(hN:X.N.Nodup)(XQ:X.N[i]?=some x)(hx:X.env.scope.names.lookup x=some .local)(S:bD X.N X.env.scope scope ls js cs)(hi:PI X tg iter wi)
  (hg:∀de eL C fp pn,PG (gh X scope (ls++cs) de eL C fp pn) tg g) (ht:∀de eL C fp pn,Lr (gh X scope (ls++cs) de eL C fp pn) ifs tt) (he:∀de eL C fp pn,PE (gh X scope (ls++cs) de eL C fp pn) elt te)
  (Pb:swapsWith (.ListComp elt [⟨tg,iter,ifs,0⟩] scope pos) (some (.Name x pos')) Lv.line X.env=pure true:=by rfl)
  (hs:∀x,foldedSetIterable iter X.env x=pure x:=by intro _;rfl):PS X (.Assign [.Name x pos'] (.ListComp elt [⟨tg,iter,ifs,0⟩] scope pos) Lv) (Hv (Ci wi ls js g tt te) (YA i)):=by
 intro pins s σ H D I h;rw[exec_Assign_Name_used _ _ _ _ Pb];refine wpAny_bind (wpAny_standAt (wpAny_bind ?_));show wpAny _ X.A (do let _←comprehension (.ListComp elt [⟨tg,iter,ifs,0⟩] scope pos) scope X.env (firstIterPos [⟨tg,iter,ifs,0⟩] pos) (newList []) false (eval iter X.env) (some (assign (.Name x pos') X.env))) _ _ s;refine wpAny_bind (wpAny_mono (u9 (use:=some (assign (.Name x pos') X.env)) (QQ:=fun _ s'=>SP X pins D .next s') hc S hi hg ht he I h (fun Dl C H' s' m I' q hm fc=>?_) hs) (fun _ s' hq=>wpAny_pure (wpAny_pure hq)) fun _ _ e=>e);show wpAny _ X.A (assign (.Name x pos') X.env (.ref Dl)) _ _ _;obtain⟨q1,q2,q3,q4,q5,q6⟩:=fc;refine wpAny_assign_Name (uQ (v:= .ref Dl) I' hN XQ (.inl hx) rfl (fun s2 I2 ⟨a,Lu,ha⟩=>?_) (.inr hx));have f9:C≠a:=by
  rcases ha with rfl|ha
  ·exact q2
  ·exact fun z=>q5 x a ha z.symm
 refine⟨m,hm.sameBut Lu f9,fun h' Pc=>?_⟩;exact⟨_,H',I2.turned (t':=s2.toks) (fun b o hb e=>Pc.extBut b o hb e) q1 q2 q4 q5 q6,q⟩
end
def Nm(z:Str):It:=⟨fun i _=>i<z.length,fun i H x H'=>H'=H∧∃c,z.cps.toList[i]?=some c∧x= .str ⟨#[c]⟩,fun i _=>z.length≤i⟩
theorem Cj{P:Program}{w:World}{K:Frag}{tg:Expr}{it:Addr}{z:Str}{ty:String}{t:Tok}(Bv:ty="str_ascii_iterator"∨ty="str_iterator"):Turn P w K tg (Nm z) [it] it (fun i h=>h.IsStrIter it ty z t i) where
 mem:=XE
 obj:=fun i h st b hb=>by
  have e:b=it:=by simpa using hb
  subst e;obtain⟨o,e,c,d⟩:=st;exact⟨o,e,fun v z=>by rw[d]at z;cases z⟩
 keep:=fun i h h' st k=>let ⟨o,ho,r⟩:=st;⟨o,k it (XE) o ho,r⟩
 item:=by
  intro X hP hw hK hc i pins s σ H E I hf st hg;subst hP hw hK;obtain⟨f0,f1,f2,f3,f4,f5⟩:=hf it (XE);have hg:i<z.cps.size:=hg;have key:∀h',h'.IsStrIter it ty z t (i+1)→Heap.SameBut it s.heap h'→∃u,some (Value.str ⟨#[z.cps[i]]⟩ s.toks)=some u∧
    wpAny Xv X.A (letOwnedTupleGo tg (.ref it) u) (fun _ s2=>∃x H',Inv X pins σ H' s2∧RelV x u∧(Nm z).Ej i H x H'∧s2.heap.IsStrIter it ty z t (i+1)∧∀b∈[it],H' b=none) E {s with heap:=h',toks:=s.toks+1}:=fun h' aN sb=>by
   have I1:Inv X pins σ H {s with heap:=h',toks:=s.toks+1}:=I.turned (fun b o hb e=>(sb.2 b hb).trans e) f0 f1 f3 f4 f5;obtain⟨o,e,c,d⟩:=id aN;refine⟨_,rfl,Y3 (s:={s with heap:=h',toks:=s.toks+1}) e c d (by rcases Bv with rfl|rfl<;>decide) ⟨.str ⟨#[z.cps[i]]⟩,H,I1,⟨_,rfl⟩,⟨rfl,z.cps[i],by simp[hg],rfl⟩,aN,fun b hb=>(hf b hb).1⟩⟩
  rcases Bv with rfl|rfl
  ·exact wpAny_pyNext_ascii_item st (c:=z.cps[i]) (by simp[hg]) key
  ·exact wpAny_pyNext_wide_item st (c:=z.cps[i]) (by simp[hg]) key
 done:=by
  intro X hP hw hK hc i pins s σ H E I hf st hg;subst hP hw hK;obtain⟨f0,f1,f2,f3,f4,f5⟩:=hf it (XE);have hg:z.cps.size≤i:=hg;rcases Bv with rfl|rfl
  ·exact wpAny_pyNext_ascii_end (I.ok.hd hc) st (by simp[hg]) fun h' eb=>⟨rfl,I.turned (t':=s.toks) (fun b o hb e=>eb b o hb e) f0 f1 f3 f4 f5⟩
  ·exact wpAny_pyNext_wide_end (I.ok.hd hc) st (by simp[hg]) fun h' eb=>⟨rfl,I.turned (t':=s.toks) (fun b o hb e=>eb b o hb e) f0 f1 f3 f4 f5⟩
 self:=fun _ _ _ _ _ st h=>by
  rcases Bv with rfl|rfl
  ·exact wpAny_pyIter_striter_ascii st h
  ·exact wpAny_pyIter_striter_wide st h
section
variable{X:Cx}{tg:Expr}
def Pd(tl:TE):TI:=fun σ H R=>tl σ H fun x H1=>∃z,x= .str z∧R (Nm z) H1
theorem Ic{l:Expr}{tl:TE}(hl:PE X l tl):PI X tg l (Pd tl):=by
 intro pins s σ H R I h;refine cy (hl pins s σ H _ I h) fun v s1 ⟨x,H1,I1,r1,q1⟩=>?_
 obtain⟨z,e,q⟩:=q1;subst e;obtain⟨t,rfl⟩:=r1;refine wpAny_pyIter_strU ?_;refine⟨s1.heap.objs.size,[s1.heap.objs.size],_,_,H1,rfl,I1.kept (t':=s1.toks) fun b o e=>Xo e,Cj (ty:=strIterType z) (t:=t) (by unfold strIterType;split<;>simp),⟨_,Heap.get?_push_size _ rfl,rfl,rfl⟩,fun b hb=>?_,q⟩;have e:b=s1.heap.objs.size:=by simpa using hb
 subst e;exact I1.uq (Nat.le_refl _) (I1.bO.fresh (Nat.le_refl _))
end
theorem pU{J:It}{n:Nat}{ls:List Str}{js:List Nat}{g:TG}{tt:TT}{te:TE}{σ:St}{H1:Hp}{D:Addr}{Q:VK}(Pv:Nat→List V→St→Hp→Prop)
  (h0:Pv 0 [] (mM ls js σ) (upd H1 D (.lst []))) (Ud:∀i ys σ H,i<n→Pv i ys σ H→J.go i H) (uR:∀ys σ H,Pv n ys σ H→J.stop n H)
  (hs:∀i ys σ H x H2,i<n→Pv i ys σ H→J.Ej i H x H2→g x σ H2 fun gc H3=>tt gc H3 fun b H4=>if b=true then te gc H4 fun y H5=>H5 D=some (.lst ys)∧ys.length<sizeLine∧Pv (i+1) (ys++[y]) gc (upd H5 D (.lst (ys++[y])))else Pv (i+1) ys gc H4)
  (hd:∀ys σ H,Pv n ys σ H→Q (.ref D) H):
  tH J ls js g tt te σ H1 D Q:=by
 refine⟨fun i m ys σ H=>m=n-i∧i≤n∧Pv i ys σ H,⟨n,XE,Nat.zero_le _,h0⟩,?_⟩;rintro i m ys σ H ⟨rfl,hi,p⟩;by_cases iM:i<n
 ·exact .inr ⟨Ud i ys σ H iM p,Pv (i+1),fun Gi gc H2 p'=>⟨n-(i+1),XB,rfl,iM,p'⟩,fun x H2 y=>hs i ys σ H x H2 iM p y⟩
 ·have e:i=n:=XB;subst e;exact .inl ⟨uR ys σ H p,hd ys σ H p⟩
theorem kZ{K:Frag}{a:Addr}{xs:List V}{ls:List Str}{js:List Nat}{g:TG}{tt:TT}{te:TE}{σ:St}{H1:Hp}{D:Addr}{Q:VK}(Pv:Nat→List V→St→Hp→Prop)
  (h0:Pv 0 [] (mM ls js σ) (upd H1 D (.lst []))) (hl:∀i ys σ H,i≤xs.length→Pv i ys σ H→jb K H a xs)
  (hs:∀i x ys σ H,xs[i]?=some x→Pv i ys σ H→g x σ H fun gc H3=>tt gc H3 fun b H4=>if b=true then te gc H4 fun y H5=>H5 D=some (.lst ys)∧ys.length<sizeLine∧Pv (i+1) (ys++[y]) gc (upd H5 D (.lst (ys++[y])))else Pv (i+1) ys gc H4)
  (hd:∀ys σ H,Pv xs.length ys σ H→Q (.ref D) H):
  tH (JZ K a) ls js g tt te σ H1 D Q:=
 pU (n:=xs.length) Pv h0 (fun i ys σ H hi p=>⟨xs,xs[i],hl i ys σ H (Nat.le_of_lt hi) p,by simp[hi]⟩) (fun ys σ H p=>⟨xs,hl _ ys σ H (Nat.le_refl _) p,Nat.le_refl _⟩)
  (fun i ys σ H x H2 hi p y=>by
   obtain⟨e,y⟩:=y;subst e;exact hs i x ys σ _ (y xs (hl i ys σ _ (Nat.le_of_lt hi) p)) p) hd
theorem Zz{lo:Int}{n:Nat}{ls:List Str}{js:List Nat}{g:TG}{tt:TT}{te:TE}{σ:St}{H1:Hp}{D:Addr}{Q:VK}(Pv:Nat→List V→St→Hp→Prop)
  (h0:Pv 0 [] (mM ls js σ) (upd H1 D (.lst [])))
  (hs:∀i ys σ H,i<n→Pv i ys σ H→g (.int (lo+i)) σ H fun gc H3=>tt gc H3 fun b H4=>if b=true then te gc H4 fun y H5=>H5 D=some (.lst ys)∧ys.length<sizeLine∧Pv (i+1) (ys++[y]) gc (upd H5 D (.lst (ys++[y])))else Pv (i+1) ys gc H4)
  (hd:∀ys σ H,Pv n ys σ H→Q (.ref D) H):
  tH (Hy lo n) ls js g tt te σ H1 D Q:=
 pU (n:=n) Pv h0 (fun i ys σ H hi p=>hi) (fun ys σ H p=>Nat.le_refl _)
  (fun i ys σ H x H2 hi p y=>by
   obtain⟨e,y⟩:=y;subst e y;exact hs i ys σ _ hi p) hd
theorem Ck{z:Str}{ls:List Str}{js:List Nat}{g:TG}{tt:TT}{te:TE}{σ:St}{H1:Hp}{D:Addr}{Q:VK}(Pv:Nat→List V→St→Hp→Prop)
  (h0:Pv 0 [] (mM ls js σ) (upd H1 D (.lst [])))
  (hs:∀i c ys σ H,z.cps.toList[i]?=some c→Pv i ys σ H→g (.str ⟨#[c]⟩) σ H fun gc H3=>tt gc H3 fun b H4=>if b=true then te gc H4 fun y H5=>H5 D=some (.lst ys)∧ys.length<sizeLine∧Pv (i+1) (ys++[y]) gc (upd H5 D (.lst (ys++[y])))else Pv (i+1) ys gc H4)
  (hd:∀ys σ H,Pv z.length ys σ H→Q (.ref D) H):
  tH (Nm z) ls js g tt te σ H1 D Q:=
 pU (n:=z.length) Pv h0 (fun i ys σ H hi p=>hi) (fun ys σ H p=>Nat.le_refl _)
  (fun i ys σ H x H2 hi p y=>by
   obtain⟨e,c,hc,ex⟩:=y;subst e ex;exact hs i c ys σ _ hc p) hd
theorem u_(z:Str)(lo hi:Option Int):(Txt.slice z lo hi).cps.toList=(z.cps.toList.drop (HT.lC z.length 0 lo)).take (HT.lC z.length z.length hi-HT.lC z.length 0 lo):=by
 have Ue:=HT.B7 z.length 0 (Nat.zero_le _) lo;have Ug:=HT.B7 z.length z.length (Nat.le_refl _) hi;have ix:Builtin.Str.strSliceIndices lo hi 1 z.length=(List.range (HT.lC z.length z.length hi-HT.lC z.length 0 lo)).map (HT.lC z.length 0 lo+·):=by
  rw[←sliceRange_one];have pos:(1:Int)>0:=XC;cases lo with
  |none=>
   cases hi with
   |none=>rfl
   |some j=>
    simp only[Builtin.Str.strSliceIndices,HT.lC,pos,if_true]
    congr 1
    by_cases h:j<0
    ·simp only[h,if_true];lia
    ·simp only[h,if_false];lia
  |some i=>
   have e1:max 0 (min (if i<0 then i+(z.length:Int)else i) (z.length:Int))=((HT.lC z.length 0 (some i):Nat):Int):=by
    simp only[HT.lC];by_cases h:i<0
    ·simp only[h,if_true];lia
    ·simp only[h,if_false];lia
   cases hi with
   |none=>
    simp only[Builtin.Str.strSliceIndices,pos,if_true];rw[e1];rfl
   |some j=>
    have e2:max 0 (min (if j<0 then j+(z.length:Int)else j) (z.length:Int))=((HT.lC z.length z.length (some j):Nat):Int):=by
     simp only[HT.lC];by_cases h:j<0
     ·simp only[h,if_true];lia
     ·simp only[h,if_false];lia
    simp only[Builtin.Str.strSliceIndices,pos,if_true];rw[e1,e2]
 have hp:=pick_run z.cps (HT.lC z.length 0 lo) (HT.lC z.length z.length hi-HT.lC z.length 0 lo);unfold Txt.slice;rw[ix];split
 ·rename_i h
  simp only[List.length_map,List.length_range,beq_self_eq_true,Bool.true_and,beq_iff_eq]at h;have h0:HT.lC z.length 0 lo=0:=by lia
  have h1:HT.lC z.length z.length hi=z.length:=by lia
  rw[h0,h1,List.drop_zero,Nat.sub_zero,List.take_of_length_le (by simp[Str.length])]
 ·rw[←hp]
theorem va(z:Str)(lo hi:Option Int):(Txt.slice z lo hi).length≤z.length:=Txt.slice_le z lo hi
section
variable{X:Cx}
def Pe:V→Option Int→Option Int→Hp→VK→Prop:=fun x lo hi H Q=>∃z,x= .str z∧z.length≤sizeLine∧Q (.str (Txt.slice z lo hi)) H
theorem YL:Nb X Pe:=by
 intro pins s σ H x v vl vu lo hi sl Q I rx hs pl pu h;obtain⟨z,rfl,hz,q⟩:=h;obtain⟨t,rfl⟩:=rx;refine⟨"str",_,F.slot_str_getitem.lookup,typeIs_str _ _ _,?_⟩;have go:∀l u:Option (Int×Tok),vl=partValue l→vu=partValue u→l.map (·.1)=lo→u.map (·.1)=hi→wpAny Xv X.A (getItem (.str z t) (.ref sl)) (EP X pins σ Q) X.xe s:=by
  rintro l u rfl rfl rfl rfl;obtain⟨o,h1,h2,h3⟩:=hs;refine wpAny_getItem_str_slice (l:=l) (u:=u) (st:=none) ⟨o,h1,h2,h3⟩ rfl ?_;exact post_val_or_str ⟨Nat.le_trans (Txt.slice_le z _ _) hz,fun t' k=>⟨.str (Txt.slice z (l.map (·.1)) (u.map (·.1))),H,I.tok _,⟨_,rfl⟩,q⟩⟩
 cases pl with
 |none=>
  cases pu with
  |none=>exact go none none rfl rfl rfl rfl
  |int j tj=>exact go none (some (j,tj)) rfl rfl rfl rfl
 |int i ti=>
  cases pu with
  |none=>exact go (some (i,ti)) none rfl rfl rfl rfl
  |int j tj=>exact go (some (i,ti)) (some (j,tj)) rfl rfl rfl rfl
theorem vc:sk X (compareOp .LtE) (fun x y H Q=>∃i j,x= .str i∧y= .str j∧Q (.bl (!decide (j.cps.toList<i.cps.toList))) H):=by
 intro pins s σ H x y v u Q I rx ry h;obtain⟨i,j,rfl,rfl,q⟩:=h;obtain⟨t,rfl⟩:=rx;obtain⟨t',rfl⟩:=ry;exact P.le_str (bB I q rfl)
theorem EL{bs:List Bool}{us:List Value}(r:Vals (bs.map V.bl) us)(i:Nat)(v:Value)(h:us[i]?=some v):v= .bool (bs.getD i false):=by
 induction bs generalizing us i with
 |nil=>cases r;simp at h
 |cons b r' ih=>
  cases r with
  |cons r0 rr=>
   cases i with
   |zero=>
    have h0:some _=some v:=h;cases h0;exact r0
   |succ i=>simpa using ih rr i (by simpa using h)
theorem all_range(bs:List Bool):(List.range bs.length).all (fun i=>bs.getD i false)=bs.all id:=by
 rw[Bool.eq_iff_iff,List.all_eq_true,List.all_eq_true];constructor
 ·intro h b hb;obtain⟨i,hi,rfl⟩:=List.mem_iff_getElem.mp hb;have:=h i (by simpa using hi);simpa[hi]using this
 ·intro h i hi;have hi:i<bs.length:=by simpa using hi
  simpa[hi]using h bs[i] (List.getElem_mem hi)
def Lw(K:Frag)(f:List Bool→Bool):List V→Hp→VK→Prop:=fun xs H Q=>∃a bs,xs=[.ref a]∧jb K H a (bs.map V.bl)∧Q (.bl (f bs)) H
theorem Cm(hc:X.calm=true):jz X (.builtin "all") (Lw X.K fun bs=>bs.all id):=by
 intro pins s σ H xs us Q I r h;obtain⟨a,bs,rfl,hq,q⟩:=h;cases r with
 |cons r rr=>
  cases rr;cases r;obtain⟨its,rv,p,hz⟩:=I.list hq;have hl:=rv.length;rw[List.length_map]at hl;refine call_all_walk (wpAny_pyIter_list p.isList ?_);have f9:a≠s.heap.objs.size:=by
   obtain⟨o,n,e,_⟩:=p;exact Nat.ne_of_lt (Heap.lt_size e)
  refine⟨s.heap.objs.size,_,_,_,_,_,fun i=>bs.getD i false,rfl,Walks.list (A:=X.A.in1) (show X.A.in1.handled=none from I.ok.hd hc) _ a f9 its.toArray,⟨⟨_,Heap.get?_push_size _ rfl,rfl,rfl⟩,p.isList.at fun o e=>Xo e⟩,fun i v s1 Q1 E1 hv q1=>?_,fun h' tk hk=>?_⟩
  ·have hv:=EL rv i v (by simpa using hv);subst hv;exact wpAny_truthy_bool q1
  ·rw[List.size_toArray,←hl,all_range];refine⟨.bl (bs.all id),H,I.kept fun b o e=>hk b o (fun z=>?_) (Xo e),rfl,q⟩;have z:b=s.heap.objs.size:=by simpa using z
   exact absurd (z▸Heap.lt_size e) (Nat.lt_irrefl _)
def Gk:V→Option Value
 | .ty n=>some (.type n)
 | .ref C=>some (.ref C)
 | _=>none
theorem AU{c:V}{cv u:Value}(h:Gk c=some cv)(r:RelV c u):u=cv:=by
 cases c<;>first
  |(cases h;done)
  |(cases h;exact r)
inductive Ie(K:Frag)(xs:List V)(H:Hp)(Q:VK):Prop
 |mk (x:_) (c:_) (t:_) (b:_) (cv:_) (_:xs=[x,c]) (_:Gk c=some cv) (_:qM K H x t) (_:kitOne K t cv=some b) (_:Q (.bl b) H):Ie K xs H Q
theorem Cn:jz X (.builtin "isinstance") (Ie X.K):=by
 intro pins s σ H xs us Q I r h;obtain⟨x,c,t,b,cv,rfl,rc,ty,hk,q⟩:=h;cases r with
 |cons r1 rr=>
  cases rr with
  |cons r2 rr=>
   cases rr;cases AU rc r2;exact AH I r1 ty hk fun tk=>⟨.bl b,H,I.tok _,rfl,q⟩
end
section
variable{P:Program}{w:World}{K:Frag}{mg:Str→Option Value}{base:Heap}
abbrev Nn(P:Program)(w:World)(K:Frag)(mg:Str→Option Value)(base:Heap)(cm:Bool)(N:List Str)(qual:Str)(scope:Scope)(f:Addr)(cd:Value)(A:Around)(outer:List Env)(s:Shared)(H:Hp)(E:XK):Cx:=
 XW (dq P w) cm P w K mg base N qual scope f cd A outer s H E
theorem lD.iW{cm:Bool}{x qual:Str}{st:Stmt}{f:Addr}{fd:FuncData}{N ps:List Str}{k:Nat}{sp:Sp}(F:lD K x qual st f fd)(S:aJ N ps (aq st))(len:∀vs H Q E,sp vs H Q E→vs.length=ps.length)
  (Y5:∀(cj:Value)(A:Around)(outer:List Env)(s:Shared)(H:Hp)(vs:List V)(Q:VK)(E:XK),eK cm k (A.deeper (envOfC qual (aq st) s.heap.objs.size f cj))→sp vs H Q E→
   Ng (Nn P w K mg base cm N qual (aq st) f cj A outer s H E) (fun _=>E)→
   ∃t,Az (Nn P w K mg base cm N qual (aq st) f cj A outer s H E) (eA st) t∧t {nx:=fun _ H'=>Q .cI H',rt:=Q} (start N vs) H):a8 P w K mg base (dq P w) cm (k+1) f fd ps sp:=by
 obtain⟨oc,od,kV,doc,pm,an,cj,ct,XS,rfl,lk,AA⟩:=F.ex;exact Ga lk AA S len fun A outer s H vs Q E hr D0=>Y5 cj A outer s H vs Q E hr D0 Ye
end
def cc(P:Program)(w:World)(K:Frag)(mg:Str→Option Value)(base:Heap)(cm:Bool)(k:Nat)(x:Str)(ps:List Str)(sp:Sp):Prop:=
 ∃f fd,a8 P w K mg base (dq P w) cm k f fd ps sp∧mg x=some (.ref f)∧keepIn K (.ref f)=true∧Binds K fd ps []
theorem Co{P:Program}{w:World}{K:Frag}{mg:Str→Option Value}{base:Heap}{cm:Bool}{k:Nat}{x y:Str}{ps:List Str}{sp:Sp}{st:Stmt}{f:Addr}{fd:FuncData}(F:lD K x y st f fd)(hm:mg x=some (.ref f))(b:Binds K fd ps [])
  (ok:a8 P w K mg base (dq P w) cm k f fd ps sp):cc P w K mg base cm k x ps sp:=⟨f,fd,ok,hm,F.kp,b⟩
section
variable{X:Cx}{cm:Bool}{k:Nat}{x:Str}{ps:List Str}{sp:Sp}{E:St→XK}{e:Expr}{es:List Expr}{t:TA}{p pos:Pos}
theorem aO(D:cc X.prog X.w X.K X.mg X.base cm k x ps sp)(hr:eK cm k X.A)(hx:Passes (dq X.prog X.w) X E)(ha:PA X (e::es) t)(hg:Gl X x:=by rfl)(vF:(x==("__debug__":Str))=false:=by decide)
  (he:starEach (e::es) X.env=(false,eval e X.env)::starEach es X.env:=by rfl) (rO:(backTo pos (starEach es X.env)).any (·.1)=false:=by rfl):PE X (.Call (.Name x p) (e::es) [] pos) (F' sp [] E t):=by
 obtain⟨f,fd,ok,hm,hk,hb⟩:=D;exact Es ok hr hg hm hk hb .nil hx ha vF he rO
theorem eC{v:V}(h:∃u,X.mg x=some u∧RelV v u)(hg:Gl X x:=by rfl)(hd:(x==("__debug__":Str))=false:=by decide):PE X (.Name x pos) (tC v):=by
 obtain⟨u,h1,h2⟩:=h;exact ZI hg h1 h2 hd
end
theorem vT{σ:St}{H:Hp}{A B:Hp→Prop}(h:A H):Ib σ H (fun b H4=>if b=true then A H4 else B H4):=by
 show if true=true then A H else B H
 exact mL h
theorem tI{i:Nat}{x:V}{σ:St}{H:Hp}{A B:St→Hp→Prop}(h:A (σ.set i (some x)) H):YA i x σ H (fun gc H3=>Ib gc H3 (fun b H4=>if b=true then A gc H4 else B gc H4)):=by
 show if true=true then A (σ.set i (some x)) H else B (σ.set i (some x)) H
 exact mL h
theorem aC{n:Nat}(h:n≤100000):n≤sizeLine:=Nat.le_trans h (XC)
theorem a_{n:Nat}(h:n≤100000):n<sizeLine:=Nat.lt_of_le_of_lt h (XC)
def Pf(t u:TS):TS:=fun D σ H=>∃Pm:St→Hp→Prop,t {D with nx:=Pm} σ H∧∀bF H',Pm bF H'→u D bF H'
theorem aD{X:Cx}{st:Stmt}{rest:List Stmt}{t u:TS}(h1:PS X st t)(h2:Az X rest u):Az X (st::rest) (Pf t u):=by
 intro pins s σ H D I h;obtain⟨Pm,ht,hu⟩:=h;refine wpAny_execs_cons (cy (h1 pins s σ H {D with nx:=Pm} I ht) fun f s1 q=>?_);cases f with
 |next=>obtain⟨bF,H',I',p⟩:=q;exact h2 pins s1 bF H' D I' (hu bF H' p)
 |brk=>exact q
 |cont=>exact q
 |ret v=>exact q
theorem au.upd{H:Hp}{a:Addr}{o:HO}(h:H a=none):au H (upd H a o):=fun b u e=>by rw[ai (aA e h)];exact e
theorem au.fD{H H':Hp}{a:Addr}{o:HO}(s:au H H')(h:H a=none):au H (L2.upd H' a o):=fun b u e=>by rw[ai (aA e h)];exact s b u e
end L2
namespace QF
open PySem L2
theorem qE{n:Nat}{P:List Value→Prop}(h:∀a us,us.length=n→P (a::us)):∀us:List Value,us.length=n+1→P us:=fun us e=>by
 cases us with
 |nil=>cases e
 |cons a r=>exact h a r (Nat.succ.inj e)
theorem Ig{P:List Value→Prop}(h:P []):∀us:List Value,us.length=0→P us:=fun us e=>by
 cases us with
 |nil=>exact h
 |cons a r=>cases e
theorem Uh{P:List Value→Prop}(h:∀a,P [a]):∀us:List Value,us.length=1→P us:=qE fun a=>Ig (h a)
theorem Ui{P:List Value→Prop}(h:∀a b,P [a,b]):∀us:List Value,us.length=2→P us:=qE fun a=>qE fun b=>Ig (h a b)
theorem Uj{P:List Value→Prop}(h:∀a b c,P [a,b,c]):∀us:List Value,us.length=3→P us:=qE fun a=>qE fun b=>qE fun c=>Ig (h a b c)
theorem Uk{P:List Value→Prop}(h:∀a b c d,P [a,b,c,d]):∀us:List Value,us.length=4→P us:=qE fun a=>qE fun b=>qE fun c=>qE fun d=>Ig (h a b c d)
theorem Ul{P:List Value→Prop}(h:∀a b c d e,P [a,b,c,d,e]):∀us:List Value,us.length=5→P us:=qE fun a=>qE fun b=>qE fun c=>qE fun d=>qE fun e=>Ig (h a b c d e)
theorem Um{P:List Value→Prop}(h:∀a b c d e f,P [a,b,c,d,e,f]):∀us:List Value,us.length=6→P us:=qE fun a=>qE fun b=>qE fun c=>qE fun d=>qE fun e=>qE fun f=>Ig (h a b c d e f)
theorem Uo{P:List Value→Prop}(h:∀a b c d e f g,P [a,b,c,d,e,f,g]):∀us:List Value,us.length=7→P us:=qE fun a=>qE fun b=>qE fun c=>qE fun d=>qE fun e=>qE fun f=>qE fun g=>Ig (h a b c d e f g)
theorem Up(us:List Value)(e:us.length=7):∃a b c d e f g,us=[a,b,c,d,e,f,g]:=Uo (P:=fun us=>∃a b c d e f g,us=[a,b,c,d,e,f,g]) (fun a b c d e f g=>⟨a,b,c,d,e,f,g,rfl⟩) us e
end QF
namespace L2
open PySem PySem.Spec PyProof.Rows PySem.W PySem.Calls
def notStar:Expr→Bool
 | .Starred _ _=>false
 | _=>true
theorem tJ{e:Expr}{es:List Expr}{env:Env}(h:notStar e=true):starEach (e::es) env=(false,eval e env)::starEach es env:=by
 cases e<;>first|rfl|cases h
theorem ak{X:Cx}{e:Expr}{es:List Expr}{te:TE}{t:TA}(ha:PE X e te)(hr:PA X es t)(hn:notStar e=true:=by rfl):PA X (e::es) (F_ te t):=Ep ha hr (tJ hn)
structure iY(K:Frag)(x qual:Str)(st:Stmt)(f:Addr)(fd:FuncData):Prop where
 ex:∃(oc:Value)(od:Option Addr)(dV kV doc pm:Value)(an:Option Addr)(cj ct:Value)(XS:Array (Option Value)),
  fd=fnOf x qual (fo st) (eA st) (aq st) dV kV doc pm an cj ct∧K.lookup f=some ⟨oc,od, .func fd,XS⟩∧codeIn K cj qual=true
 kp:keepIn K (.ref f)=true
theorem Yv{K:Frag}{x qual:Str}{st:Stmt}{f:Addr}{oc:Value}{od an:Option Addr}{XS:Array (Option Value)}{dV kV doc pm cj ct:Value}(l:K.lookup f=some ⟨oc,od, .func (fnOf x qual (fo st) (eA st) (aq st) dV kV doc pm an cj ct),XS⟩)
  (c:codeIn K cj qual=true) (k:keepIn K (.ref f)=true):iY K x qual st f (fnOf x qual (fo st) (eA st) (aq st) dV kV doc pm an cj ct):=⟨⟨oc,od,dV,kV,doc,pm,an,cj,ct,XS,rfl,l,c⟩,k⟩
section
variable{P:Program}{w:World}{K:Frag}{mg:Str→Option Value}{base:Heap}
theorem iY.iW{cm:Bool}{x qual:Str}{st:Stmt}{f:Addr}{fd:FuncData}{N ps:List Str}{k:Nat}{sp:Sp}(F:iY K x qual st f fd)(S:aJ N ps (aq st))(len:∀vs H Q E,sp vs H Q E→vs.length=ps.length)
  (Y5:∀(cj:Value)(A:Around)(outer:List Env)(s:Shared)(H:Hp)(vs:List V)(Q:VK)(E:XK),eK cm k (A.deeper (envOfC qual (aq st) s.heap.objs.size f cj))→sp vs H Q E→
   Ng (Nn P w K mg base cm N qual (aq st) f cj A outer s H E) (fun _=>E)→
   ∃t,Az (Nn P w K mg base cm N qual (aq st) f cj A outer s H E) (eA st) t∧t {nx:=fun _ H'=>Q .cI H',rt:=Q} (start N vs) H):a8 P w K mg base (dq P w) cm (k+1) f fd ps sp:=by
 obtain⟨oc,od,dV,kV,doc,pm,an,cj,ct,XS,rfl,lk,AA⟩:=F.ex;exact Ga lk AA S len fun A outer s H vs Q E hr D0=>Y5 cj A outer s H vs Q E hr D0 Ye
end
def ed(P:Program)(w:World)(K:Frag)(mg:Str→Option Value)(base:Heap)(cm:Bool)(k:Nat)(C:Addr)(m:Str)(ps:List Str)(sp:Sp):Prop:=
 ∃f fd,a8 P w K mg base (dq P w) cm k f fd ps sp∧Meth K C m f∧Binds K fd ps []∧vE K C
def ot(P:Program)(w:World)(K:Frag)(mg:Str→Option Value)(base:Heap)(cm:Bool)(k:Nat)(x:Str)(C:Addr)(ps:List Str)(nL:List V)(sp:Sp):Prop:=
 ∃f fd ds,a8 P w K mg base (dq P w) cm k f fd ps sp∧Mk K C f∧mg x=some (.ref C)∧Binds K fd ps ds∧Vals nL ds
theorem Yh{P:Program}{w:World}{K:Frag}{mg:Str→Option Value}{base:Heap}{cm:Bool}{k:Nat}{x:Str}{C f:Addr}{fd:FuncData}{ps:List Str}{nL:List V}{ds:List Value}{sp:Sp}(h1:a8 P w K mg base (dq P w) cm k f fd ps sp)(h2:Mk K C f)(h3:mg x=some (.ref C))(h4:Binds K fd ps ds)(h5:Vals nL ds):ot P w K mg base cm k x C ps nL sp:=⟨f,fd,ds,h1,h2,h3,h4,h5⟩
theorem AV{P:Program}{w:World}{K:Frag}{mg:Str→Option Value}{base:Heap}{cm:Bool}{k:Nat}{m:Str}{C f:Addr}{fd:FuncData}{ps:List Str}{sp:Sp}(h1:a8 P w K mg base (dq P w) cm k f fd ps sp)(h2:Meth K C m f)(h3:Binds K fd ps [])(h4:vE K C):ed P w K mg base cm k C m ps sp:=⟨f,fd,h1,h2,h3,h4⟩
section
variable{X:Cx}{cm:Bool}{k:Nat}{x m:Str}{ps:List Str}{sp:Sp}{E:St→XK}{e o:Expr}{es:List Expr}{t:TA}{to:TE}{p pos apos:Pos}{C:Addr}{nL:List V}
theorem sQ(D:ot X.prog X.w X.K X.mg X.base cm k x C ps nL sp)(hr:eK cm (k+1) X.A)(hx:Passes (dq X.prog X.w) X E)(ha:PA X (e::es) t)(hg:Gl X x:=by rfl)(vF:(x==("__debug__":Str))=false:=by decide)
  (he:starEach (e::es) X.env=(false,eval e X.env)::starEach es X.env:=by rfl) (rO:(backTo pos (starEach es X.env)).any (·.1)=false:=by rfl):PE X (.Call (.Name x p) (e::es) [] pos) (Y7 C sp nL E t):=by
 obtain⟨f,fd,ds,ok,M,hm,hb,hd⟩:=D;exact Eu M ok hr hg hm hb hd hx ha vF he rO
theorem bG{pl:Sem Bool}(ho:PE X o to)(D:ed X.prog X.w X.K X.mg X.base cm k C m ps sp)(hr:eK cm k X.A)(hx:Passes (dq X.prog X.w) X E)(ha:PA X (e::es) t)
  (uR:starEach (e::es) X.env=(false,eval e X.env)::starEach es X.env:=by rfl) (rO:(backTo pos (starEach es X.env)).any (·.1)=false:=by rfl)
  (ht:eval (.Call (.Attribute o m apos) (e::es) [] pos) X.env=(do
   let ov←eval o X.env
   standAt apos.atName
   let (f,first)←holding [ov] (getMethod ov m pl)
   callWith pos f first (backTo pos (starEach (e::es) X.env)) (backToKw pos (keywordEach [] X.env))):=by rfl):PE X (.Call (.Attribute o m apos) (e::es) [] pos) (YE C m sp [] E to t):=by
 obtain⟨f,fd,ok,hm,hb,c⟩:=D;exact Et ho c hm ok hr hb .nil hx ha uR rO ht
theorem AW{pl:Sem Bool}(ho:PE X o to)(D:ed X.prog X.w X.K X.mg X.base cm k C m ps sp)(hr:eK cm k X.A)(hx:Passes (dq X.prog X.w) X E)
  (ht:eval (.Call (.Attribute o m apos) [] [] pos) X.env=(do
   let ov←eval o X.env
   standAt apos.atName
   let (f,first)←holding [ov] (getMethod ov m pl)
   callWith pos f first (backTo pos (starEach [] X.env)) (backToKw pos (keywordEach [] X.env))):=by rfl):PE X (.Call (.Attribute o m apos) [] [] pos) (YE C m sp [] E to BV):=by
 obtain⟨f,fd,ok,hm,hb,c⟩:=D;exact BY ho c hm ok hr hb .nil hx ht
end
section
variable{X:Cx}
theorem bE(K:Frag){tg l:Expr}{tl:TE}(hl:PE X l tl)(h:X.K=K:=by rfl):PI X tg l (F1 K tl):=h▸Ek hl
theorem aE(K:Frag){e:Expr}{f:Str}{pos:Pos}{ta:TE}(he:PE X e ta)(hb:attributeBase e f X.env (eval e X.env)=eval e X.env:=by rfl)(h:X.K=K:=by rfl):PE X (.Attribute e f pos) (K3 K ta f):=h▸HE he hb
theorem bX(K:Frag){o value:Expr}{f:Str}{pos pos':Pos}{ta tv:TE}(ha:PE X o ta)(hv:PE X value tv)(hs:swapsWith value (some (.Attribute o f pos')) pos.line X.env=pure false:=by rfl)(h:X.K=K:=by rfl):PS X (.Assign [.Attribute o f pos'] value pos) (K4 K ta tv f):=h▸HF ha hv hs
theorem ar(K:Frag)(h:X.K=K:=by rfl):J2 X (HP K):=h▸ED
theorem du(K:Frag)(h:X.K=K:=by rfl):J2 X (HQ K):=h▸HR
theorem Cp(K:Frag)(h:X.K=K:=by rfl):Nb X (HU K):=h▸EE
inductive Gm(K:Frag)(xs:List V)(H:Hp)(Q:VK):Prop
 |mk (p:_) (ys:_) (_:xs=[.ref p]) (_:(jb K H p ys∨BK K H p ys)) (_:Q (.int ys.length) H):Gm K xs H Q
theorem aP(K:Frag)(h:X.K=K:=by rfl):jz X (.builtin "len") (Gm K):=by
 subst h;intro pins s σ H xs us Q I r hq;obtain⟨p,ys,e,d,q⟩:=hq;exact vN pins s σ H xs us Q I r ⟨p,ys,e,d,q⟩
inductive ZJ(K:Frag)(xs:List V)(H:Hp)(Q:VK):Prop
 |mk (p:_) (ys:_) (_:xs=[.ref p]) (_:(jb K H p ys∨BK K H p ys)) (_:∀l,H l=none→Q (.ref l) (upd H l (.lst ys))):ZJ K xs H Q
theorem iC(K:Frag)(h:X.K=K:=by rfl):jz X (.type "list") (ZJ K):=by
 subst h;intro pins s σ H xs us Q I r hq;obtain⟨p,ys,e,d,q⟩:=hq;exact vO pins s σ H xs us Q I r ⟨p,ys,e,d,q⟩
theorem AX(K:Frag)(hc:X.calm=true)(h:X.K=K:=by rfl):jz X (.builtin "all") (Lw K fun bs=>bs.all id):=h▸Cm hc
theorem k8(K:Frag)(h:X.K=K:=by rfl):jz X (.builtin "isinstance") (Ie K):=h▸Cn
theorem jf(K:Frag){es:List Expr}{k:Nat}{t:F0}{n:Nat}{pos:Pos}(hc:X.calm=true)(h:KR X es t)
  (hn:(assignEach es X.env).length=n:=by rfl) (uR:(assignEach es X.env).findIdx? (·.1)=none:=by rfl) (hK:X.K=K:=by rfl):PG X (.Tuple es k pos) (Hs K n t):=hK▸Ht hc h hn uR
theorem eP(K:Frag){T:String}{name:Str}{id:String}{r:V→List V→Hp→VK→Prop}{o e:Expr}{es:List Expr}{apos d_:Pos}{to:TE}{t:TA}(pa:PlainAttrs T)(slot:Slot T name id)(Bv:typeOf (.builtin id)=pure (.type "method_descriptor"))(hm:Nc X id r)(ho:PE X o to)(ha:PA X (e::es) t)
  (pM:attributeBase o name X.env (eval o X.env)=eval o X.env:=by rfl)
  (Ca:((backTo d_ (starEach (e::es) X.env)).all (fun x=>!x.1)&&(backToKw d_ (keywordEach [] X.env)).all (fun x=>x.1.isSome)
   &&decide ((e::es).length+([]:List Keyword).length+(if ([]:List Keyword).isEmpty then 0 else 1)<30))=true:=by rfl)
  (pN:(apos.endLine==d_.line)=true:=by rfl) (hs:starEach (e::es) X.env=(false,eval e X.env)::starEach es X.env:=by rfl) (YM:(backTo d_ (starEach es X.env)).any (·.1)=false:=by rfl) (hK:X.K=K:=by rfl):
  PE X (.Call (.Attribute o name apos) (e::es) [] d_) (Rb K T r to t):=hK▸Le pa slot Bv hm ho ha pM Ca pN hs YM
end
section
variable{X:Cx}
end
end L2
namespace QF
open PySem L2
structure TB(mg:Str→Option Value):Prop where
 fz:mg "len"=none
 iD:mg "range"=none
 gi:mg "isinstance"=none
 YC:mg "int"=none
 Ih:mg "bool"=none
 Rp:mg "str"=none
 qQ:mg "list"=none
 EM:mg "tuple"=none
 Pg:mg "dict"=none
 Lx:mg "all"=none
 Rq:mg "any"=none
 Cq:mg "min"=none
 Gp:mg "max"=none
 j9:mg "enumerate"=none
 EN:mg "ValueError"=none
def BU(mg:Str→Option Value)(x:Str)(v:V):Prop:=∃u,mg x=some u∧RelV v u
def cell(ns:List Int)(k:Int):Int:=ns.getD k.toNat 0
theorem EO{ns:List Int}{k:Int}(h0:0≤k)(h:k<(ns.length:Int)):sP (ns.map V.int) k=some (.int (cell ns k)):=by
 obtain⟨j,rfl⟩:=Int.eq_ofNat_of_zero_le h0;have hj:j<ns.length:=XB;refine ax ?_;simp[cell,hj]
theorem cell_out{ns:List Int}{k:Int}(h0:0≤k)(h:¬k<(ns.length:Int)):cell ns k=0:=by
 have hj:ns.length≤k.toNat:=XB;simp[cell,hj]
def low(c:Nat):Bool:=decide (97≤c)&&decide (c≤122)
def tK(z:Str):Bool:=decide (1≤z.length)&&decide (z.length≤12)&&z.cps.toList.all low
theorem Rr(a b:Nat):(([a]:List Nat)<[b])↔a<b:=by
 constructor
 ·intro h;cases h with
  |rel h=>exact h
  |cons h=>cases h
 ·intro h;exact .rel h
theorem Ph(c:Nat):(!decide (([c]:List Nat)<(Str.ofString "a").cps.toList))=decide (97≤c):=by
 have e:(Str.ofString "a").cps.toList=[97]:=by decide+kernel
 rw[e,Bool.eq_iff_iff];simp only[Bool.not_eq_true',decide_eq_false_iff_not,decide_eq_true_eq,Rr];omega
theorem Pj(c:Nat):(!decide ((Str.ofString "z").cps.toList<([c]:List Nat)))=decide (c≤122):=by
 have e:(Str.ofString "z").cps.toList=[122]:=by decide+kernel
 rw[e,Bool.eq_iff_iff];simp only[Bool.not_eq_true',decide_eq_false_iff_not,decide_eq_true_eq,Rr];omega
theorem len_app(x y:Str):(x++y).length=x.length+y.length:=by
 show(x.cps++y.cps).size=_;rw[Array.size_append];rfl
inductive Cr(K:W.Frag)(vs:List V)(H:Hp)(Q:VK)(u3:XK):Prop
 |mk (a:_) (ns:_) (k:_) (_:vs=[.ref a, .int k]) (_:jb K H a (ns.map V.int)) (_:0≤k) (_:Q (.int (cell ns k)) H):Cr K vs H Q u3
inductive tL(vs:List V)(H:Hp)(Q:VK)(u3:XK):Prop
 |mk (i:_) (_:vs=[.int i]) (_:Q (.bl true) H):tL vs H Q u3
inductive YV(vs:List V)(H:Hp)(Q:VK)(u3:XK):Prop
 |mk (c:Nat) (_:vs=[.str ⟨#[c]⟩]) (_:Q (.bl (low c)) H):YV vs H Q u3
inductive vU(vs:List V)(H:Hp)(Q:VK)(u3:XK):Prop
 |mk (z:Str) (_:vs=[.str z]) (_:z.length≤100000) (_:∀H',au H H'→Q (.bl (tK z)) H'):vU vs H Q u3
inductive oM(vs:List V)(H:Hp)(Q:VK)(u3:XK):Prop
 |mk (l n h:Int) (_:vs=[.int l, .int n, .int h]) (_:Q (.bl (decide (l≤n)&&decide (n≤h))) H):oM vs H Q u3
def Y8(K:W.Frag):Sp:=fun vs H Q _=>∃(a:Addr)(ns:List Int),vs=[.ref a]∧jb K H a (ns.map V.int)∧ns.length≤63∧∀H',Q (.bl true) H'
structure Er(K:W.Frag)(mg:Str→Option Value)(x:Str)(C:Addr):Prop where
 m:mg x=some (.ref C)
 e:Ll K C
def inR(l n h:Int):Bool:=decide (l≤n)&&decide (n≤h)
inductive qR(C:Addr)(vs:List V)(H:Hp)(Q:VK)(E:XK):Prop
 |mk (nm:Str) (n l h:Int) (_:vs=[.str nm, .int n, .int l, .int h]) (_:nm.length≤20) (_:(0≤l∧l≤1)) (_:(h=100∨h=999999)) (_:(if inR l n h=true then Q .cI H else E (.ref C) none H)):qR C vs H Q E
theorem pV{i:Int}(h:i=0∨i=1∨i=12∨i=40∨i=60∨i=100∨i=999999):i.natAbs.log2<1920∧(Str.ofString (toString i)).length≤6:=by
 rcases h with rfl|rfl|rfl|rfl|rfl|rfl|rfl<;>exact⟨by decide+kernel,by decide+kernel⟩
theorem nN:(Str.empty).length=0:=by decide+kernel
theorem iP{x:V}:[x].length≤sizeLine:=aC Xy
def iZ(x y:Str)(p:Int):Bool:=tK x&&tK y&&!(x==y)&&inR 0 p 999999
inductive vV(C:Addr)(vs:List V)(H:Hp)(Q:VK)(E:XK):Prop
 |mk (x y:Str) (p:Int) (_:vs=[.str x, .str y, .int p]) (_:x.length≤100000) (_:y.length≤100000) (_:(if iZ x y p=true then ∀H',au H H'→Q .cI H' else ∀H',au H H'→E (.ref C) none H')):vV C vs H Q E
abbrev Form:=Str×Str×Int
def Ii(f:Form):List V:=[.str f.1, .str f.2.1, .int f.2.2]
def mC(f:Form):List Key:=[.inr f.1, .inr f.2.1]
def mO(f:Form):List Key×V:=(mC f, .int f.2.2)
def Bw(f:Form):Bool:=iZ f.1 f.2.1 f.2.2
def dH(H:Hp)(xs:List V)(fs:List Form):Prop:=xs.length=fs.length∧∀(i:Nat)(f:Form),fs[i]?=some f→∃t,xs[i]?=some (V.ref t)∧H t=some (.tup (Ii f))
def bH(fs:List Form):Bool:=decide (fs.length≤60)&&fs.all Bw&&decide ((fs.map mC).Nodup)
def Short(fs:List Form):Prop:=fs.length≤1000∧∀f∈fs,f.1.length≤100000∧f.2.1.length≤100000
theorem dH.same{H H':Hp}{xs:List V}{fs:List Form}(t:dH H xs fs)(s:au H H'):dH H' xs fs:=⟨t.1,fun i f e=>let ⟨b,h1,h2⟩:=t.2 i f e;⟨b,h1,s _ _ h2⟩⟩
theorem dH.nil{H:Hp}:dH H [] []:=⟨rfl,fun i f e=>by simp at e⟩
inductive qS(C:Addr)(vs:List V)(H:Hp)(Q:VK)(E:XK):Prop
 |mk (a:Addr) (xs:List V) (fs:List Form) (_:vs=[.ref a]) (_:H a=some (.lst xs)) (_:dH H xs fs) (_:Short fs) (_:(if bH fs=true then ∀H' d,au H H'→H d=none→H' d=some (.dT (fs.map mO))→Q (.ref d) H' else ∀H',au H H'→E (.ref C) none H')):qS C vs H Q E
theorem ZA(fs:List Form):(fs.map mO).map (·.1)=fs.map mC:=by rw[List.map_map];rfl
theorem Cs{fs:List Form}{i:Nat}{f:Form}(e:fs[i]?=some f)(h:Bw f=false):bH fs=false:=by
 have hm:f∈fs:=Xj e;have:fs.all Bw=false:=by
  rw[Bool.eq_false_iff];intro z;rw[List.all_eq_true]at z;rw[z f hm]at h;cases h
 simp[bH,this]
theorem AY{fs:List Form}{i:Nat}{f:Form}(e:fs[i]?=some f)(h:mC f∈(fs.take i).map mC):bH fs=false:=by
 have:¬(fs.map mC).Nodup:=fun z=>by
  obtain⟨hi,e'⟩:=Xc e;have e2:fs=fs.take i++f::fs.drop (i+1):=by
   rw[←e',List.getElem_cons_drop,List.take_append_drop]
  rw[e2,List.map_append,List.map_cons,List.nodup_append]at z;exact z.2.2 _ h _ (List.mem_cons_self) rfl
 simp[bH,this]
theorem AZ{fs:List Form}{i:Nat}{f:Form}(e:fs[i]?=some f):(fs.take (i+1)).map mO=(fs.take i).map mO++[mO f]:=by
 rw[List.take_succ,e,List.map_append];rfl
theorem Ly{fs:List Form}{k:List Key}(h:bo (fs.map mO) k=none):k∉fs.map mC:=by
 have:=Z5 h;rwa[ZA]at this
theorem Ij{fs:List Form}{k:List Key}{v:V}(h:bo (fs.map mO) k=some v):k∈fs.map mC:=by
 have:=Yr h;rwa[ZA]at this
structure Ct(K:W.Frag)(C:Addr):Prop where
 cl:vE K C
 same:bQ K C "same"
 out:bQ K C "out"
 into:bQ K C "into"
 least:bQ K C "least"
 part:bQ K C "part"
 near:bQ K C "near"
 Cu:bQ K C "prices"
structure Nums where
 same:Int
 out:Int
 into:Int
 least:Int
 part:Int
def jF(n:Nums):Bool:=inR 1 n.same 999999&&inR 0 n.out 999999&&inR 0 n.into 999999&&inR 1 n.least 999999&&inR 1 n.part 100
def vW(n:Nums)(l d:Addr):List (Str×V):=[("same", .int n.same),("out", .int n.out),("into", .int n.into),("least", .int n.least),("part", .int n.part),("near", .ref l),("prices", .ref d)]
def ow(n:Nums):List (Str×V):=[("same", .int n.same),("out", .int n.out),("into", .int n.into),("least", .int n.least),("part", .int n.part)]
def SameBut(x:Addr)(H H':Hp):Prop:=∀b u,b≠x→H b=some u→H' b=some u
structure lE(H:Hp)(C x:Addr)(n:Nums)(fs:List Form)(dx l d:Addr)(xs:List V):Prop where
 ob:H x=some (.ins C dx (vW n l d))
 own:H dx=some (.own x)
 li:H l=some (.lst xs)
 tr:dH H xs fs
 di:H d=some (.dT (fs.map mO))
def Lz(H:Hp)(v:V)(xs:List V)(fs:List Form):Prop:=(v= .cI∧xs=[]∧fs=[])∨∃a,v= .ref a∧H a=some (.lst xs)∧dH H xs fs
inductive sR(C CT CN:Addr)(vs:List V)(H:Hp)(Q:VK)(E:XK):Prop
 |mk (x dx:Addr) (n:Nums) (nv:V) (xs:List V) (fs:List Form) (_:vs=[.ref x, .int n.same, .int n.out, .int n.into, .int n.least, .int n.part,nv]) (_:H x=some (.ins C dx [])) (_:H dx=some (.own x)) (_:Lz H nv xs fs) (_:Short fs) (_:(if jF n=true then(if bH fs=true then ∀H' l d,SameBut x H H'→lE H' C x n fs dx l d xs→H l=none→H d=none→Q .cI H' else ∀H',SameBut x H H'→E (.ref CN) none H')else ∀H',SameBut x H H'→E (.ref CT) none H')):sR C CT CN vs H Q E
theorem Pk(n:Nums):bf "part" (.int n.part) (bf "least" (.int n.least) (bf "into" (.int n.into) (bf "out" (.int n.out) (bf "same" (.int n.same) []))))=ow n:=by kernel_rfl
theorem Pl(n:Nums)(l d:Addr):bf "prices" (.ref d) (bf "near" (.ref l) (ow n))=vW n l d:=by kernel_rfl
theorem LA(n:Nums)(l:Addr):(bf "near" (.ref l) (ow n)).lookup ("near":Str)=some (V.ref l):=by kernel_rfl
theorem SameBut.refl{x:Addr}{H:Hp}:SameBut x H H:=fun _ _ _ h=>h
theorem SameBut.upd{x:Addr}{H H':Hp}{o:HO}(s:SameBut x H H'):SameBut x H (upd H' x o):=fun b u n h=>by rw[ai n];exact s b u n h
theorem SameBut.same{x:Addr}{H H' H2:Hp}(s:SameBut x H H')(t:au H' H2):SameBut x H H2:=fun b u n h=>t b u (s b u n h)
theorem SameBut.laid{x a:Addr}{H H':Hp}{o:HO}(s:SameBut x H H')(h:H a=none):SameBut x H (L2.upd H' a o):=fun b u n e=>by rw[ai (aA e h)];exact s b u n e
theorem SameBut.free{x l:Addr}{H H':Hp}{o:HO}(s:SameBut x H H')(hx:H' x=some o)(h:H' l=none):H l=none:=by
 cases e:H l with
 |none=>rfl
 |some u=>
  have n:l≠x:=fun z=>by rw[z,hx]at h;cases h
  rw[s l u n e]at h;cases h
theorem dH.but{x:Addr}{H H':Hp}{xs:List V}{fs:List Form}{C dx:Addr}{gs:List (Str×V)}(t:dH H xs fs)(s:SameBut x H H')(hx:H x=some (.ins C dx gs)):dH H' xs fs:=
 ⟨t.1,fun i f e=>let ⟨b,h1,h2⟩:=t.2 i f e;⟨b,h1,s _ _ (fun z=>by rw[z,hx]at h2;cases h2) h2⟩⟩
def fl(j:Nat):List V:=[.bl (decide (0=j)), .bl (decide (1=j)), .bl (decide (2=j)), .bl (decide (3=j)), .bl (decide (4=j)), .bl (decide (5=j)), .bl (decide (6=j)), .bl (decide (7=j)), .bl (decide (8=j)), .bl (decide (9=j)), .bl (decide (10=j)), .bl (decide (11=j)), .bl (decide (12=j)), .bl (decide (13=j))]
def kinds:List Str:=["word","book","terms","near","way","name","year","taken","full","many","no book","no finding","left","search","another"]
def kindOf(j:Nat):Str:=kinds.getD j ""
theorem int_at(is:List Int){i:Int}(h0:0≤i)(h:i<(is.length:Int)):∃m,m∈is∧sP (is.map V.int) i=some (.int m):=by
 obtain⟨j,rfl⟩:=Int.eq_ofNat_of_zero_le h0;have hj:j<is.length:=XB;exact⟨is[j],List.getElem_mem hj,ax (by simp[hj])⟩
theorem Cv(n:Nums)(l d:Addr):(vW n l d).lookup ("same":Str)=some (V.int n.same):=by kernel_rfl
theorem l_out(n:Nums)(l d:Addr):(vW n l d).lookup ("out":Str)=some (V.int n.out):=by kernel_rfl
theorem Ik(n:Nums)(l d:Addr):(vW n l d).lookup ("into":Str)=some (V.int n.into):=by kernel_rfl
theorem ER(n:Nums)(l d:Addr):(vW n l d).lookup ("least":Str)=some (V.int n.least):=by kernel_rfl
theorem Cw(n:Nums)(l d:Addr):(vW n l d).lookup ("prices":Str)=some (V.ref d):=by kernel_rfl
theorem vX(n:Nums)(l d:Addr):(vW n l d).lookup ("pair_worth":Str)=none:=by kernel_rfl
end QF
namespace L2
open PySem PySem.Spec PyProof.Rows PySem.W PySem.Calls
section
variable{X:Cx}
inductive LB(K:Frag)(x:V)(y:V)(H:Hp)(Q:VK):Prop
 |mk (p:_) (q:_) (xs:_) (_:x= .ref p) (_:y= .ref q) (_:jb K H p xs) (_:jb K H q []) (_:Q (.bl (!xs.isEmpty)) H):LB K x y H Q
theorem Za(K:Frag)(hu:X.A.units<cLine)(hK:X.K=K:=by rfl):sk X (compareOp .NotEq) (LB K):=by
 subst hK;intro pins s σ H x y v u Q I rx ry h;obtain⟨p,q,xs,rfl,rfl,hp,hq,k⟩:=h;cases rx;cases ry;obtain⟨its,r,pl,hz⟩:=I.list hp;obtain⟨fC,r2,Il,LC⟩:=I.list hq;cases r2;obtain⟨⟨cls,dd,data,sl⟩,ho,hc,n,hd⟩:=id pl.isList;obtain⟨⟨LD,Cy,data2,wU⟩,XI,vR,n2,hd2⟩:=id Il.isList;simp only at hc hd vR hd2;subst hc hd vR hd2;by_cases e:its=[]
 ·subst e;cases r;refine richCompare_meets_room (op:= .NotEq) ⟨_,ho,rfl⟩ ⟨_,XI,rfl⟩ F.slot_list_ne F.entry_list_ne (F.args_list_ne_2 _ _) (SeqAt.list_neAt p q #[] #[] n n2 dd Cy sl wU rfl (fun _=>true)) ⟨ho,XI,fun j h1 _=>absurd h1 Xy,?_⟩ hu;exact⟨(fun x=>nomatch x), .bl false,H,I,rfl,k⟩
 ·have hx:xs≠[]:=fun z=>by subst z;cases r;exact e rfl
  have hsz:(its.toArray.size !=(#[]:Array Value).size)=true:=by simpa using e
  refine richCompare_meets_room (op:= .NotEq) ⟨_,ho,rfl⟩ ⟨_,XI,rfl⟩ F.slot_list_ne F.entry_list_ne (F.args_list_ne_2 _ _) (SeqAt.list_ne_lengthsAt p q its.toArray #[] n n2 dd Cy sl wU hsz) ⟨ho,XI,?_⟩ hu;have:(!xs.isEmpty)=true:=by simpa using hx
  rw[this]at k;exact⟨(fun x=>nomatch x), .bl true,H,I,rfl,k⟩
end
end L2
namespace QF
open PySem L2
def dO(fs:List Form)(x y:Str):Option Int:=(fs.find? fun f=>decide (f.1=x∧f.2.1=y)).map (·.2.2)
def dI(same:Int)(fs:List Form)(x y:Str):Option Int:=if x=y then some same else(dO fs x y).map (same-·)
def bC:Option Int→V
 |none=> .cI
 |some i=> .int i
theorem vY(f:Form)(x y:Str):mC f=[.inr x, .inr y]↔f.1=x∧f.2.1=y:=by simp[mC]
theorem ve(x y:Str):∀fs:List Form,bo (fs.map mO) [.inr x, .inr y]=(dO fs x y).map V.int
 |[]=>rfl
 |f::r=>by
  rw[List.map_cons];by_cases h:mC f=[.inr x, .inr y]
  ·have h':=(vY f x y).mp h;rw[cw (show(mO f).1=_ from h)];simp[dO,List.find?_cons,h'.1,h'.2,mO]
  ·have h':¬(f.1=x∧f.2.1=y):=fun z=>h ((vY f x y).mpr z)
   rw[cb (show ¬(mO f).1=_ from h),ve x y r];simp[dO,List.find?_cons,h']
inductive vZ(C:Addr)(vs:List V)(H:Hp)(Q:VK)(u3:XK):Prop
 |mk (t:Addr) (x y:Str) (n:Nums) (fs:List Form) (dx l d:Addr) (xs:List V) (_:vs=[.ref t, .str x, .str y]) (_:lE H C t n fs dx l d xs) (_:∀H',au H H'→Q (bC (dI n.same fs x y)) H'):vZ C vs H Q u3
abbrev LF:Str:=Str.ofString "abcdefghijklmnopqrstuvwxyz"
theorem ES:LF.length=26:=by decide+kernel
theorem YS(zs:List Str){i:Int}(h0:0≤i)(h:i<(zs.length:Int)):∃m,m∈zs∧sP (zs.map V.str) i=some (.str m):=by
 obtain⟨j,rfl⟩:=Int.eq_ofNat_of_zero_le h0;have hj:j<zs.length:=XB;exact⟨zs[j],List.getElem_mem hj,ax (by simp[hj])⟩
theorem pW(x y:Str):(x++y).cps.toList=x.cps.toList++y.cps.toList:=by
 show(x.cps++y.cps).toList=_;simp
def d6(H H':Hp):Prop:=∀t v,H t=some (.tup v)→H' t=some (.tup v)
theorem d6.same{H H':Hp}(s:au H H'):d6 H H':=fun t v h=>s _ _ h
theorem d6.lst{H:Hp}{l:Addr}{xs:List V}{o:HO}(h:H l=some (.lst xs)):d6 H (upd H l o):=fun t v e=>by
 rw[ai (jy e h (by intro z;cases z))];exact e
theorem dH.cq{H H':Hp}{xs:List V}{fs:List Form}(T:dH H xs fs)(k:d6 H H'):dH H' xs fs:=⟨T.1,fun i f e=>let ⟨b,h1,h2⟩:=T.2 i f e;⟨b,h1,k _ _ h2⟩⟩
theorem dH.snoc{H:Hp}{xs:List V}{fs:List Form}{t:Addr}{f:Form}(T:dH H xs fs)(ht:H t=some (.tup (Ii f))):dH H (xs++[.ref t]) (fs++[f]):=by
 refine⟨by simp[T.1],fun i g e=>?_⟩;by_cases h:i<fs.length
 ·rw[List.getElem?_append_left h]at e;obtain⟨b,h1,h2⟩:=T.2 i g e;exact⟨b,by rw[List.getElem?_append_left (by rw[T.1];exact h)];exact h1,h2⟩
 ·have hi:i=fs.length:=by
   have:=(Xc e).1;simp at this;omega
  subst hi;have hg:f=g:=by simpa using e
  subst hg;exact⟨t,by rw[←T.1];simp,ht⟩
theorem ET{n j:Nat}(h:j<n):B8 n (j:Int)=some j:=by
 unfold B8;rw[if_pos Xz,if_pos Xz];simp
theorem EU:LF.cps.toList=(List.range 26).map (97+·):=by decide+kernel
theorem Cz{r:Int}:sP LF.cps.toList (r%26)=some (97+(r%26).toNat):=by
 have h0:0≤r%26:=XB;have h1:r%26<26:=XB;generalize r%26=m at h0 h1;obtain⟨j,rfl⟩:=Int.eq_ofNat_of_zero_le h0;refine ax ?_;have hj:j<26:=XB;rw[EU];simp[hj]
theorem Z0(r:Int):low (97+(r%26).toNat)=true:=by
 have h1:(r%26).toNat≤25:=XB;simp[low];omega
def lows(z:Str):Prop:=z.cps.toList.all low=true
def k_(bL:Str)(cell other:Int)(k:Nat):Str:=
 let size:=1+cell/2%12
 if cell%2=1 then Txt.slice bL none (some (1+(size+k)%12))
 else Txt.slice bL none (some (other%size))++⟨#[97+((other/12+k)%26).toNat]⟩++Txt.slice bL (some (other%size+1)) (some size)
theorem v5{n d:Nat}{v:Int}(h0:0≤v)(h:v≤n):HT.lC n d (some v)=v.toNat:=by
 simp only[HT.lC];split<;>omega
theorem mP{z:Str}{v:Int}(h0:0≤v)(h:v≤z.length):(Txt.slice z none (some v)).cps.toList=z.cps.toList.take v.toNat:=by
 rw[u_,v5 h0 h,HT.B6];simp
theorem CA{z:Str}{u v:Int}(h0:0≤u)(h1:u≤v)(h:v≤z.length):(Txt.slice z (some u) (some v)).cps.toList=(z.cps.toList.drop u.toNat).take (v.toNat-u.toNat):=by
 rw[u_,v5 h0 Xz,v5 Xz h]
theorem len_list(z:Str):z.cps.toList.length=z.length:=by simp[Str.length]
theorem CB{z:Str}(h1:1≤z.length)(h2:z.length≤12)(h:lows z):tK z=true:=by
 have h:z.cps.toList.all low=true:=h;simp[tK,h1,h2,h]
theorem CC{bL:Str}(hl:bL.length=12)(hs:lows bL)(cell other:Int)(k:Nat):tK (k_ bL cell other k)=true:=by
 have oz:=List.all_eq_true.mp hs;have J4:=len_list bL;have z0:1≤1+cell/2%12∧1+cell/2%12≤12:=by lia
 unfold k_;simp only;generalize 1+cell/2%12=size at z0;split
 ·have z1:1≤1+(size+(k:Int))%12∧1+(size+(k:Int))%12≤12:=by lia
  generalize 1+(size+(k:Int))%12=m at z1;have e:=mP (z:=bL) (v:=m) (by lia) (by lia);have el:(Txt.slice bL none (some m)).length=m.toNat:=by rw[←len_list,e,List.length_take,J4];lia
  refine CB Xu (by lia) ?_;unfold lows;rw[e,List.all_eq_true];exact fun c hc=>oz c (List.mem_of_mem_take hc)
 ·have z1:0≤other%size∧other%size<size:=⟨Int.emod_nonneg _ Xu,Int.emod_lt_of_pos _ Xu⟩
  generalize other%size=j5 at z1;have e1:=mP (z:=bL) (v:=j5) (by lia) (by lia);have e2:=CA (z:=bL) (u:=j5+1) (v:=size) (by lia) (by lia) (by lia);have l1:(Txt.slice bL none (some j5)).length=j5.toNat:=by rw[←len_list,e1,List.length_take,J4];lia
  have l2:(Txt.slice bL (some (j5+1)) (some size)).length=size.toNat-(j5+1).toNat:=by rw[←len_list,e2,List.length_take,List.length_drop,J4];lia
  have el:(Txt.slice bL none (some j5)++(⟨#[97+((other/12+(k:Int))%26).toNat]⟩:Str)++Txt.slice bL (some (j5+1)) (some size)).length=size.toNat:=by
   rw[len_app,len_app,l1,l2];show j5.toNat+1+_=_
   lia
  refine CB Xu (by lia) ?_;unfold lows;rw[pW,pW,e1,e2,List.all_append,List.all_append];have a1:(bL.cps.toList.take j5.toNat).all low=true:=List.all_eq_true.mpr fun c hc=>oz c (List.mem_of_mem_take hc)
  have a2:((bL.cps.toList.drop (j5+1).toNat).take (size.toNat-(j5+1).toNat)).all low=true:=List.all_eq_true.mpr fun c hc=>oz c (List.mem_of_mem_drop (List.mem_of_mem_take hc))
  have a3:=Z0 (other/12+(k:Int));rw[a1,a2];simp[a3]
theorem Im{A B:List Nat}{c:Nat}:(A++[c]++B)[A.length]?=some c:=XE
theorem CD{bL:Str}(hl:bL.length=12)(cell other:Int){k k':Nat}(hk:k<12)(CH:k'<12)(e:k_ bL cell other k=k_ bL cell other k'):k=k':=by
 have J4:=len_list bL;have z0:1≤1+cell/2%12∧1+cell/2%12≤12:=by lia
 unfold k_ at e;simp only at e;generalize 1+cell/2%12=size at z0 e;split at e
 ·have e:=congrArg (fun z:Str=>z.cps.toList.length) e;rw[mP Xu (by lia),mP Xu (by lia),List.length_take,List.length_take,J4,hl]at e
  lia
 ·have z1:0≤other%size∧other%size<size:=⟨Int.emod_nonneg _ Xu,Int.emod_lt_of_pos _ Xu⟩
  generalize other%size=j5 at z1 e;have e1:=mP (z:=bL) (v:=j5) (by lia) (by lia);have l1:(bL.cps.toList.take j5.toNat).length=j5.toNat:=by rw[List.length_take,J4];lia
  have at_:∀c:Nat,(Txt.slice bL none (some j5)++(⟨#[c]⟩:Str)++Txt.slice bL (some (j5+1)) (some size)).cps.toList[j5.toNat]?=some c:=fun c=>by
   rw[pW,pW,e1];have:=Im (A:=bL.cps.toList.take j5.toNat) (B:=(Txt.slice bL (some (j5+1)) (some size)).cps.toList) (c:=c);rw[l1]at this;exact this
  have e:=congrArg (fun z:Str=>z.cps.toList[j5.toNat]?) e;have e2:=(at_ _).symm.trans (e.trans (at_ _));have e3:=Xs e2
  lia
theorem Zv{bL:Str}(hl:bL.length=12)(cell other:Int){n:Nat}(hn:n≤12):((List.range n).map (k_ bL cell other)).Nodup:=by
 refine List.pairwise_map.mpr ?_;refine List.Pairwise.imp_of_mem (R:=fun a b=>a≠b) (fun{a b} ha hb h e=>h ?_) List.nodup_range;exact CD hl cell other (by have:=List.mem_range.mp ha;omega) (by have:=List.mem_range.mp hb;omega) e
inductive v7(vs:List V)(H:Hp)(Q:VK)(u3:XK):Prop
 |mk (cell other many:Int) (_:vs=[.int cell, .int other, .int many]) (_:0≤many) (_:many≤12) (_:∀H' b (zs:List Str),au H H'→H b=none→H' b=some (.lst (zs.map V.str))→zs.length=many.toNat→(∀z∈zs,tK z=true)→zs.Nodup→Q (.ref b) H'):v7 vs H Q u3
structure cT(zs:List Str)(i j:Nat)(fs:List Form):Prop where
 ok:∀f∈fs,Bw f=true
 nd:(fs.map mC).Nodup
 old:∀f∈fs,∃i' j',(i'<i∨(i'=i∧j'<j))∧zs[i']?=some f.1∧zs[j']?=some f.2.1
 wR:fs.length+(if i<j then 1 else 0)≤i*(zs.length-1)+j
theorem cT.nil{zs:List Str}:cT zs 0 0 []:=⟨XE,XE,XE,XE⟩
theorem cT.skip{zs:List Str}{i j:Nat}{fs:List Form}(p:cT zs i j fs):cT zs i (j+1) fs:=by
 refine⟨p.ok,p.nd,fun f hf=>?_,?_⟩
 ·obtain⟨i',j',h,r⟩:=p.old f hf;exact⟨i',j',XB,r⟩
 ·have:=p.wR;split<;>split at this<;>omega
theorem Yo{zs:List Str}(hn:zs.Nodup){i j:Nat}{x:Str}(h1:zs[i]?=some x)(h2:zs[j]?=some x):i=j:=by
 obtain⟨a1,b1⟩:=Xc h1;obtain⟨a2,b2⟩:=Xc h2;exact(List.getElem_inj hn).mp (b1.trans b2.symm)
theorem cT.add{zs:List Str}{i j:Nat}{fs:List Form}(p:cT zs i j fs)(hn:zs.Nodup)(hw:∀z∈zs,tK z=true){x y:Str}(hx:zs[i]?=some x)(hy:zs[j]?=some y)(f9:¬x=y){pr:Int}(h0:0≤pr)(h1:pr≤999999):
  cT zs i (j+1) (fs++[(x,y,pr)]):=by
 have uk:i≠j:=fun e=>f9 (by subst e;rw[hx]at hy;exact Xs hy)
 refine⟨fun f hf=>?_,?_,fun f hf=>?_,?_⟩
 ·rcases List.mem_append.mp hf with h|h
  ·exact p.ok f h
  ·have h:f=(x,y,pr):=by simpa using h
   rw[h];have a1:=hw x (Xj hx);have a2:=hw y (Xj hy);simp[Bw,iZ,a1,a2,f9,inR,h0,h1]
 ·rw[List.map_append];refine List.nodup_append.mpr ⟨p.nd,XE,fun a ha b hb e=>?_⟩;have hb:b=mC (x,y,pr):=by simpa using hb
  rw[e,hb]at ha;obtain⟨f,hf,ef⟩:=List.mem_map.mp ha;obtain⟨e1,e2⟩:=(vY f x y).mp ef;obtain⟨i',j',h,r1,r2⟩:=p.old f hf;rw[e1]at r1;rw[e2]at r2;have:=Yo hn r1 hx;have:=Yo hn r2 hy;omega
 ·rcases List.mem_append.mp hf with h|h
  ·obtain⟨i',j',h,r⟩:=p.old f h;exact⟨i',j',XB,r⟩
  ·have h:f=(x,y,pr):=by simpa using h
   rw[h];exact⟨i,j,XB,hx,hy⟩
 ·have:=p.wR;rw[List.length_append];show fs.length+1+_≤_;split<;>split at this<;>omega
theorem cT.row{zs:List Str}{i:Nat}{fs:List Form}(p:cT zs i zs.length fs)(hi:i<zs.length):cT zs (i+1) 0 fs:=by
 refine⟨p.ok,p.nd,fun f hf=>?_,?_⟩
 ·obtain⟨i',j',h,r⟩:=p.old f hf;exact⟨i',j',XB,r⟩
 ·have h:=p.wR;rw[Xp hi]at h;rw[if_neg Xz,Nat.succ_mul];omega
theorem cT.good{zs:List Str}{fs:List Form}(p:cT zs zs.length 0 fs)(h:zs.length≤8):bH fs=true:=by
 have h1:=p.wR;have h2:zs.length*(zs.length-1)≤8*7:=Nat.mul_le_mul h Xz;rw[if_neg Xz]at h1;have h3:fs.length≤60:=XB;have h4:fs.all Bw=true:=List.all_eq_true.mpr p.ok;simp[bH,h3,h4,p.nd]
theorem Zr{fs:List Form}(h:bH fs=true):Short fs:=by
 simp only[bH,Bool.and_eq_true,decide_eq_true_eq,List.all_eq_true]at h;refine⟨XB,fun f hf=>?_⟩;have h1:=h.1.2 f hf;simp only[Bw,iZ,tK,Bool.and_eq_true,decide_eq_true_eq]at h1;omega
inductive v8(vs:List V)(H:Hp)(Q:VK)(u3:XK):Prop
 |mk (cell same:Int) (b:Addr) (zs:List Str) (_:vs=[.int cell, .ref b, .int same]) (_:H b=some (.lst (zs.map V.str))) (_:zs.length≤8) (_:(∀z∈zs,tK z=true)) (_:zs.Nodup) (_:1≤same) (_:same≤999999) (_:∀H' l xs fs,au H H'→H l=none→H' l=some (.lst xs)→dH H' xs fs→bH fs=true→Q (.ref l) H'):v8 vs H Q u3
inductive tM(vs:List V)(H:Hp)(Q:VK)(u3:XK):Prop
 |mk (x y:Str) (same:Int) (l:Addr) (xs:List V) (fs:List Form) (_:vs=[.str x, .str y, .int same, .ref l]) (_:H l=some (.lst xs)) (_:dH H xs fs) (_:Q (bC (dI same fs x y)) H):tM vs H Q u3
theorem nO{zs:List Str}{i:Nat}{v:V}(h:(zs.map V.str)[i]?=some v):∃x,zs[i]?=some x∧v= .str x:=by
 rw[List.getElem?_map]at h;cases e:zs[i]? with
 |none=>rw[e]at h;cases h
 |some x=>rw[e]at h;exact⟨x,rfl,(Xs h).symm⟩
theorem CI{fs:List Form}{x y:Str}(h:∀f∈fs,¬(f.1=x∧f.2.1=y)):dO fs x y=none:=by
 have:fs.find? (fun f=>decide (f.1=x∧f.2.1=y))=none:=by
  rw[List.find?_eq_none];intro f hf;simpa using h f hf
 unfold dO;rw[this];rfl
theorem rQ:∀{fs:List Form}{i:Nat}{x y x0 y0:Str}{p:Int},fs[i]?=some (x0,y0,p)→(∀f∈fs.take i,¬(f.1=x∧f.2.1=y))→(x0=x∧y0=y)→dO fs x y=some p
 |f::r,0,x,y,x0,y0,p,h,_,e=>by
  have h:f=(x0,y0,p):=by simpa using h
  rw[h];simp[dO,List.find?_cons,e.1,e.2]
 |f::r,i+1,x,y,x0,y0,p,h,hn,e=>by
  have h1:¬(f.1=x∧f.2.1=y):=hn f Xy;have:=rQ (fs:=r) (i:=i) (x:=x) (y:=y) (by simpa using h) (fun g hg=>hn g (by simp[hg])) e;simpa[dO,List.find?_cons,h1]using this
def sw(f:Form):Form:=(f.2.1,f.1,f.2.2)
inductive oN(K:W.Frag)(vs:List V)(H:Hp)(Q:VK)(u3:XK):Prop
 |mk (a:Addr) (ns:List Int) (k:Int) (_:vs=[.ref a, .int k]) (_:jb K H a (ns.map V.int)) (_:0≤k) (_:∀H' D (s o i l:Int),au H H'→H D=none→H' D=some (.lst [.int s, .int o, .int i, .int l])→(1≤s∧s≤999999)→(0≤o∧o≤999999)→(0≤i∧i≤999999)→(1≤l∧l≤999999)→Q (.ref D) H'):oN K vs H Q u3
theorem lE.same{H H':Hp}{C x:Addr}{n:Nums}{fs:List Form}{dx l d:Addr}{xs:List V}(T:lE H C x n fs dx l d xs)(s:au H H'):lE H' C x n fs dx l d xs:=⟨s _ _ T.ob,s _ _ T.own,s _ _ T.li,T.tr.same s,s _ _ T.di⟩
theorem EV{is:List Int}(h:is.length=4):∃a b c d,is=[a,b,c,d]:=by
 match is,h with
 |[a,b,c,d],_=>exact⟨a,b,c,d,rfl⟩
theorem SameBut.YX{x dx C:Addr}{H H':Hp}(hx:H x=none)(CJ:H dx=none)(s:SameBut x (L2.upd (L2.upd H dx (.own x)) x (.ins C dx [])) H'):au H H':=fun b u e=>by
 have n1:b≠x:=aA e hx;have n2:b≠dx:=aA e CJ;exact s b u n1 (by rw[ai n1,ai n2];exact e)
end QF
namespace L2
open PySem PySem.Spec PyProof.Rows PySem.W PySem.Calls
section
variable{X:Cx}{pins:List (Addr×Obj)}{σ:St}{H:Hp}{s:Shared}{h':Heap}
theorem Inv.EW{t':Nat}{fp:List Addr}(I:Inv X pins σ H s)(hf:∀b∈fp,iX X pins H b)(k:∀b o,b∉fp→s.heap.get? b=some o→h'.get? b=some o):Inv X pins σ H {s with heap:=h',toks:=t'}:=by
 have FW:∀b u,H b=some u→b∉fp:=fun b u e z=>by rw[(hf b z).1]at e;cases e
 refine I.step (g':=s.gens) (d':=s.drawn) (ch:=fp) (fun b hb=>?_) (fun b o _ _ hc e _=>k b o hc e) (fun b o _ _ hc e _=>⟨o.slots,k b o hc e⟩) (fun _ _ _ _ n=>n)
  (fun b o hc e=>⟨o,k b o hc e⟩) (fun _ _ e=>e) (fun _ _ _ e=>e) (fun b ps e=>⟨#[],by rw[e];simp⟩) (fun m hm=>?_) (fun b u e=>?_) I.bare
 ·obtain⟨_,f1,_,f3,f4,f5⟩:=hf b hb;exact⟨f3,f1,f4,f5⟩
 ·obtain⟨o,es,ep,ho,r⟩:=hm;exact⟨o,es,ep,k _ o (fun z=>(hf _ z).2.1 rfl) ho,r⟩
 ·refine(I.bO b u e).vz (fun c v hc q=>k c v ?_ q) (fun _ q=>q) fun _ _ q=>q
  rcases hc with z|z
  ·rw[z];exact FW b u e
  ·exact FW c _ z
theorem Inv.Yn{t':Nat}{fp:List Addr}{T:Addr}{u:HO}(I:Inv X pins σ H s)(hf:∀b∈fp,iX X pins H b)(hT:iX X pins H T)(k:∀b o,b∉fp→s.heap.get? b=some o→h'.get? b=some o)
  (new:cJ X.prog X.w (upd H T u) h' T u):Inv X pins σ (upd H T u) {s with heap:=h',toks:=t'}:=by
 have FW:∀b u,H b=some u→b∉fp:=fun b u e z=>by rw[(hf b z).1]at e;cases e
 have nT:∀b v,H b=some v→b≠T:=fun b v e z=>by rw[z,hT.1]at e;cases e
 refine I.step (g':=s.gens) (d':=s.drawn) (ch:=T::fp) (fun b hb=>?_) (fun b o _ _ hc e _=>k b o (fun z=>hc (List.mem_cons_of_mem _ z)) e) (fun b o _ _ hc e _=>⟨o.slots,k b o (fun z=>hc (List.mem_cons_of_mem _ z)) e⟩) (fun b _ hc _ n=>?_)
  (fun b o hc e=>⟨o,k b o (fun z=>hc (List.mem_cons_of_mem _ z)) e⟩) (fun b xs e=>by rw[ai (nT b _ e)];exact e) (fun b o v e=>by rw[ai (nT b _ e)];exact e) (fun b ps e=>⟨#[],by rw[ai (nT b _ e),e];simp⟩) (fun m hm=>?_) (fun b v e=>?_) I.bare
 ·rcases List.mem_cons.mp hb with z|z
  ·subst z;obtain⟨_,f1,_,f3,f4,f5⟩:=hT;exact⟨f3,f1,f4,f5⟩
  ·obtain⟨_,f1,_,f3,f4,f5⟩:=hf b z;exact⟨f3,f1,f4,f5⟩
 ·rw[ai (fun z=>hc (by simp[z]))];exact n
 ·obtain⟨o,es,ep,ho,r⟩:=hm;exact⟨o,es,ep,k _ o (fun z=>(hf _ z).2.1 rfl) ho,r⟩
 ·by_cases hb:b=T
  ·subst hb;rw[ae]at e;cases e;exact new
  ·rw[ai hb]at e;refine(I.bO b v e).vz (fun c v' hc q=>k c v' ?_ q) (fun c q=>by rw[ai (nT c _ q)];exact q) fun c xs q=>by rw[ai (nT c _ q)];exact q
   rcases hc with z|z
   ·rw[z];exact FW b v e
   ·exact FW c _ z
theorem Inv.swap{d:Addr}{u u':HO}(I:Inv X pins σ H s)(e:H d=some u)(ht:∀xs,u≠ .tup xs)(ho:∀x,u≠ .own x)(hb:∀ps,u≠ .Ef ps)(hf:∀o v,X.eL d≠some (.sN o v))(new:cJ X.prog X.w (upd H d u') s.heap d u'):Inv X pins σ (upd H d u') s:=by
 have nd:∀b,H b=none→b≠d:=fun b n z=>by rw[z,e]at n;cases n
 have nt:∀b xs,H b=some (.tup xs)→b≠d:=fun b xs q z=>by rw[z,e]at q;cases q;exact ht xs rfl
 have no:∀b x,H b=some (.own x)→b≠d:=fun b xs q z=>by rw[z,e]at q;cases q;exact ho xs rfl
 refine⟨I.ok,I.os,I.bare,⟨I.base.keep,I.base.slot,fun b o q n hx=>?_,I.base.there,fun b xs q=>?_,fun b o v q=>?_,fun b ps q=>?_⟩,I.loc,I.cell,?_,fun x c q=>?_,fun p hp=>?_,fun b v q=>?_,I.len⟩
 ·have z:=I.base.free b o q n hx;rw[ai (nd b z)];exact z
 ·have z:=I.base.cq b xs q;rw[ai (nt b xs z)];exact z
 ·have z:=I.base.pD b o v q;rw[ai (fun y=>by subst y;exact hf o v q)];exact z
 ·obtain⟨m,z⟩:=I.base.sj b ps q;exact⟨m,by rw[ai (fun y=>by rw[y,e]at z;cases z;exact hb _ rfl)];exact z⟩
 ·rw[ai (nd _ I.free)];exact I.free
 ·rw[ai (nd _ (I.oj x c q))];exact I.oj x c q
 ·obtain⟨p1,p2,p3⟩:=I.pin p hp;exact⟨p1,by rw[ai (nd _ p2)];exact p2,p3⟩
 ·by_cases Rt:b=d
  ·subst Rt;rw[ae]at q;cases q;exact new
  ·rw[ai Rt]at q;exact(I.bO b v q).vz (fun c v' _ z=>z) (fun c z=>by rw[ai (no c _ z)];exact z) fun c xs z=>by rw[ai (nt c _ z)];exact z
end
def J5(K:Frag)(a:Addr):It:=
 ⟨fun i H=>∃xs x,jb K H a xs∧xs[i]?=some x,fun i H x H'=>∃T y,x= .ref T∧H T=none∧H'=upd H T (.tup [.int i,y])∧∀xs,jb K H a xs→xs[i]?=some y,fun i H=>∃xs,jb K H a xs∧xs.length≤i⟩
theorem A0{P:Program}{w:World}{K:Frag}{elts:List Expr}{n:Nat}{pos:Pos}(a e it:Addr)(f9:e≠it):
  Turn P w K (.Tuple elts n pos) (J5 K a) [e,it] e (fun i h=>(∃old,IsEnum h e it (i:Nat) old)∧h.IsListIter it a i) where
 mem:=XE
 obj:=fun i h st b hb=>by
  obtain⟨⟨old,s1⟩,o,s2,_,s3⟩:=st;rcases List.mem_cons.mp hb with z|z
  ·subst z;exact⟨_,s1,fun v z=>by
    have z':Data.fields _=Data.cell v:=z;cases z'⟩
  ·have e:b=it:=by simpa using z
   subst e;exact⟨o,s2,fun v z=>by rw[s3]at z;cases z⟩
 keep:=fun i h h' st k=>⟨⟨st.1.choose,k e Xy _ st.1.choose_spec⟩,st.2.at fun o q=>k it (XE) o q⟩
 item:=by
  intro X hP hw hK hc i pins s σ H E I hf st hg;subst hP hw hK;obtain⟨xs,x,hq,hx⟩:=hg;obtain⟨⟨old,s1⟩,s2⟩:=st;obtain⟨its,rv,p,hz⟩:=I.list hq;obtain⟨u,hu,ru⟩:=rv.get hx;refine wpAny_pyNext_enum_item s1 s2 p.isList (x:=u) (by simpa using hu) f9 fun h' o1 o2 o3 o4 o5=>?_
  refine⟨_,rfl,wpAny_letOwnedTupleGo_enum (s:={s with heap:=h',toks:=s.toks+1}) o1 fun h2 q1 q2=>?_⟩;have uj:h2.get? s.heap.objs.size=some {cls:=Value.type "tuple",data:=Data.seq #[Value.int (↑i) s.toks,u]}:=by
   exact(q2.2 _ (Nat.ne_of_gt (Heap.lt_size s1))).trans o3
  have hT:iX X pins H s.heap.objs.size:=I.uq (Nat.le_refl _) (I.bO.fresh (Nat.le_refl _));have I1:Inv X pins σ (upd H s.heap.objs.size (.tup [.int i,x])) {s with heap:=h2,toks:=s.toks+1}:=by
   refine I.Yn hf hT (fun b o hb q=>?_) ⟨by simp[sizeLine],[Value.int (↑i) s.toks,u], .cons ⟨_,rfl⟩ (.cons ru .nil),?_⟩
   ·have b1:b≠e:=fun z=>hb (by simp[z])
    have b2:b≠it:=fun z=>hb (by simp[z])
    exact(q2.2 b b1).trans (o5 b o b1 b2 q)
   ·exact⟨_,uj,rfl,_,rfl⟩
  refine⟨.ref s.heap.objs.size,_,I1,rfl,⟨_,x,rfl,hT.1,rfl,fun ys hy=>by rw[I.Yu hy hq];exact hx⟩,⟨⟨u,by simpa using q1⟩,o2.at fun o q=>(q2.2 it (Ne.symm f9)).trans q⟩,fun b hb=>?_⟩;rw[ai (fun z=>?_)]
  ·exact(hf b hb).1
  ·have h1:=Heap.lt_size s1;obtain⟨_,h2,_⟩:=s2;have h3:=Heap.lt_size h2;rcases List.mem_cons.mp hb with y|y
   ·rw[z.symm.trans y]at h1;exact absurd h1 (Nat.lt_irrefl _)
   ·have:b=it:=by simpa using y
    rw[z.symm.trans this]at h3;exact absurd h3 (Nat.lt_irrefl _)
 done:=by
  intro X hP hw hK hc i pins s σ H E I hf st hg;subst hP hw hK;obtain⟨xs,hq,hx⟩:=hg;obtain⟨⟨old,s1⟩,s2⟩:=st;obtain⟨its,rv,p,hz⟩:=I.list hq;have hl:=rv.length;exact wpAny_pyNext_enum_end (I.ok.hd hc) s1 s2 p.isList (by simp;omega) fun h' eb=>⟨rfl,I.EW (t':=s.toks) hf (fun b o hb q=>eb b o (fun z=>hb (by simp[z])) q)⟩
 self:=fun _ _ _ _ _ st h=>wpAny_pyIter_enum st.1.choose_spec h
section
variable{X:Cx}{tg:Expr}
def Gq(K:Frag)(ta:TA):TI:=fun σ H R=>ta σ H fun vs H1=>∃a,vs=[.ref a]∧(∃xs,jb K H1 a xs)∧R (J5 K a) H1
theorem EX{elts:List Expr}{n:Nat}{tp:Pos}{a:Expr}{ta:TA}{p pos:Pos}(hg:Gl X "enumerate")(hm:X.mg "enumerate"=none)(ha:PA X [a] ta)(hs:starEach [a] X.env=[(false,eval a X.env)]:=by rfl):
  PI X (.Tuple elts n tp) (.Call (.Name "enumerate" p) [a] [] pos) (Gq X.K ta):=by
 intro pins s σ H R I h;refine Call_ (mI I hg hm boot_enumerate (PyProof.Rows.callWith_type1 (cy (ha pos pins s σ H _ I h) fun us s1 ⟨vs,H1,I1,r1,q1⟩=>?_) hs rfl));obtain⟨l,e,⟨xs,hq⟩,q⟩:=q1;subst e;cases r1 with
 |cons r rr=>
  cases rr;cases r;obtain⟨its,rv,p,hz⟩:=I1.list hq;refine call_enumerate_list p.isList fun h' o1 o2 o3 o4=>?_
  refine wpAny_pyIter_enum (s:={s1 with heap:=h'}) o1 ?_;refine⟨s1.heap.objs.size+1,[s1.heap.objs.size+1,s1.heap.objs.size],_,_,H1,rfl,I1.kept (t':=s1.toks) o4,A0 l _ _ (Nat.succ_ne_self _),⟨⟨_,o1⟩,o2⟩,fun b hb=>?_,q⟩;have J6:s1.heap.objs.size≤b:=by
   rcases List.mem_cons.mp hb with y|y
   ·rw[y];exact Nat.le_succ _
   ·have:b=s1.heap.objs.size:=by simpa using y
    exact Nat.le_of_eq this.symm
  exact I1.uq J6 (I1.bO.fresh J6)
end
theorem pX{X:Cx}(K:Frag){elts:List Expr}{n:Nat}{tp:Pos}{a:Expr}{ta:TA}{p pos:Pos}(hg:Gl X "enumerate")(hm:X.mg "enumerate"=none)(ha:PA X [a] ta)(hs:starEach [a] X.env=[(false,eval a X.env)]:=by rfl)(h:X.K=K:=by rfl):
  PI X (.Tuple elts n tp) (.Call (.Name "enumerate" p) [a] [] pos) (Gq K ta):=h▸EX hg hm ha hs
theorem Z6{K:Frag}{a:Addr}{xs:List V}{g:TG}{tb:TS}{D:Ends}{σ:St}{H:Hp}(Pv:Nat→St→Hp→Prop)(h0:Pv 0 σ H)(hl:∀i σ H,i≤xs.length→Pv i σ H→jb K H a xs)
  (hs:∀i x T σ H,xs[i]?=some x→Pv i σ H→H T=none→g (.ref T) σ (upd H T (.tup [.int i,x])) fun gc H2=>tb {D with nx:=Pv (i+1),ct:=Pv (i+1),bk:=D.nx} gc H2) (hd:∀σ H,Pv xs.length σ H→D.nx σ H):
  ∃W:Nat→Nat→St→Hp→Prop,(∃m,W 0 m σ H)∧∀i m σ H,W i m σ H→
   ((J5 K a).stop i H∧D.nx σ H)∨((J5 K a).go i H∧∃N:St→Hp→Prop,(∀bF H',N bF H'→∃m',m'<m∧W (i+1) m' bF H')∧∀x H',(J5 K a).Ej i H x H'→g x σ H' fun gc H2=>tb {D with nx:=N,ct:=N,bk:=D.nx} gc H2):=by
 refine⟨fun i m σ H=>m=xs.length-i∧i≤xs.length∧Pv i σ H,⟨xs.length,XE,Nat.zero_le _,h0⟩,?_⟩;rintro i m σ H ⟨rfl,hi,p⟩;have hq:=hl i σ H hi p;by_cases iM:i<xs.length
 ·refine .inr ⟨⟨xs,xs[i],hq,by simp[iM]⟩,Pv (i+1),fun bF H' p'=>⟨xs.length-(i+1),XB,rfl,iM,p'⟩,fun x H' y=>?_⟩;obtain⟨T,y,rfl,hT,rfl,hy⟩:=y;exact hs i y T σ H (hy xs hq) p hT
 ·have e:i=xs.length:=XB;subst e;exact .inl ⟨⟨xs,hq,Nat.le_refl _⟩,hd σ H p⟩
def NF(eL:Hp)(d:Addr):Prop:=∀o v,eL d≠some (.sN o v)
section
variable{X:Cx}{tg:Expr}
end
end L2
namespace QF
open PySem L2
inductive v9(K:W.Frag)(vs:List V)(H:Hp)(Q:VK)(u3:XK):Prop
 |mk (a b:Addr) (ns:List Int) (zs:List Str) (c p m:Int) (_:vs=[.ref a, .int c, .int p, .int m, .ref b]) (_:jb K H a (ns.map V.int)) (_:H b=some (.lst (zs.map V.str))) (_:(1≤zs.length∧zs.length≤1000)) (_:0≤p) (_:0≤m) (_:m≤1000) (_:∀H' l (ws:List Str),au H H'→H l=none→H' l=some (.lst (ws.map V.str))→ws.length=m.toNat→(∀w∈ws,w∈zs)→Q (.ref l) H'):v9 K vs H Q u3
end QF
namespace L2
open PySem PySem.Spec PyProof.Rows PySem.W PySem.Calls
section
variable{X:Cx}
theorem EY(K:Frag){T:String}{name:Str}{id:String}{r:V→List V→Hp→VK→Prop}{o:Expr}{apos d_:Pos}{to:TE}(pa:PlainAttrs T)(slot:Slot T name id)(Bv:typeOf (.builtin id)=pure (.type "method_descriptor"))(hm:Nc X id r)(ho:PE X o to)
  (pM:attributeBase o name X.env (eval o X.env)=eval o X.env:=by rfl) (pN:(apos.endLine==d_.line)=true:=by rfl) (hK:X.K=K:=by rfl):PE X (.Call (.Attribute o name apos) [] [] d_) (Ld K T r to):=hK▸HV pa slot Bv hm ho pM pN
end
end L2
namespace QF
open PySem L2
def O7(c:Nat):Bool:=decide (65≤c)&&decide (c≤90)
def conv(c:Nat):Nat:=if low c=true then c else if O7 c=true then c+32 else 32
abbrev great:Str:=Str.ofString "ABCDEFGHIJKLMNOPQRSTUVWXYZ"
def rd(st:KWd.St)(cs:List Nat):KWd.St:=(cs.map conv).foldl KWd.step st
abbrev both:Str:=Str.ofString "abcdefghijklmnopqrstuvwxyzABCDEFGHIJKLMNOPQRSTUVWXYZ"
abbrev marks:Str:=Str.ofString " .,-'0123456789!?()[]{}@`_~/:;<=>#$&*+|^\\\""
end QF
namespace L2
open PySem PySem.Spec PyProof.Rows PySem.W PySem.Calls
section
variable{X:Cx}
def Ru(xs ys:List V)(f:Nat→Bool):Prop:=∀(j:Nat)(x y:V),xs[j]?=some x→ys[j]?=some y→(rP x=true∧rP y=true∧f j=vL x y)∨(∃a,x= .ref a∧y= .ref a∧f j=true)
theorem CK{A:Around}{s:Shared}{xs ys:List V}{its fC:List Value}{f:Nat→Bool}(r:Vals xs its)(r2:Vals ys fC)(h:Ru xs ys f):
  ∀j (h1:j<its.toArray.size) (h2:j<fC.toArray.size),SeqAt.EqAt A s its.toArray[j] fC.toArray[j] (f j):=fun j h1 h2=>by
 have J7:j<xs.length:=by have:=r.length;simp at h1;omega
 have Gr:j<ys.length:=by have:=r2.length;simp at h2;omega
 obtain⟨a1,e1,q1⟩:=r.get (i:=j) (x:=xs[j]) (by simp[J7]);obtain⟨a2,e2,q2⟩:=r2.get (i:=j) (x:=ys[j]) (by simp[Gr]);have g1:its.toArray[j]=a1:=by simpa[List.getElem?_eq_some_iff]using(Xc e1).2
 have g2:fC.toArray[j]=a2:=by simpa[List.getElem?_eq_some_iff]using(Xc e2).2
 rw[g1,g2];rcases h j xs[j] ys[j] (by simp[J7]) (by simp[Gr])with⟨f1,f2,ef⟩|⟨a,ex,ey,ef⟩
 ·rw[ef];exact vM q1 q2 f1 f2
 ·rw[ef];rw[ex]at q1;rw[ey]at q2;cases q1;cases q2;exact SeqAt.EqAt.same _
inductive LG(K:Frag)(x:V)(y:V)(H:Hp)(Q:VK):Prop
 |mk (p:_) (q:_) (xs:_) (ys:_) (f:_) (_:x= .ref p) (_:y= .ref q) (_:jb K H p xs) (_:jb K H q ys) (_:Ru xs ys f) (_:Q (.bl (decide (xs.length=ys.length)&&(List.range xs.length).all f)) H):LG K x y H Q
theorem ZR(K:Frag)(hu:X.A.units<cLine)(hK:X.K=K:=by rfl):sk X (compareOp .Eq) (LG K):=by
 subst hK;intro pins s σ H x y v u Q I rx ry h;obtain⟨p,q,xs,ys,f,rfl,rfl,hp,hq,hf,k⟩:=h;cases rx;cases ry;obtain⟨its,r,pl,hz⟩:=I.list hp;obtain⟨fC,r2,Il,LC⟩:=I.list hq;have l1:=r.length;have l2:=r2.length;obtain⟨⟨cls,dd,data,sl⟩,ho,hc,n,hd⟩:=id pl.isList;obtain⟨⟨LD,Cy,data2,wU⟩,XI,vR,n2,hd2⟩:=id Il.isList;simp only at hc hd vR hd2;subst hc hd vR hd2;by_cases e:xs.length=ys.length
 ·have hsz:its.toArray.size=fC.toArray.size:=by rw[List.size_toArray,List.size_toArray];omega
  refine richCompare_meets_room (op:= .Eq) ⟨_,ho,rfl⟩ ⟨_,XI,rfl⟩ F.slot_list_eq F.entry_list_eq (F.args_list_eq_2 _ _) (SeqAt.list_eqAt p q its.toArray fC.toArray n n2 dd Cy sl wU hsz f) ⟨ho,XI,CK r r2 hf,?_⟩ hu;rw[decide_eq_true e,Bool.true_and]at k;refine⟨(fun x=>nomatch x), .bl ((List.range xs.length).all f),H,I,?_,k⟩;rw[List.size_toArray,←l1];rfl
 ·have hsz:(its.toArray.size !=fC.toArray.size)=true:=by
   rw[List.size_toArray,List.size_toArray];simp;omega
  refine richCompare_meets_room (op:= .Eq) ⟨_,ho,rfl⟩ ⟨_,XI,rfl⟩ F.slot_list_eq F.entry_list_eq (F.args_list_eq_2 _ _) (SeqAt.list_eq_lengthsAt p q its.toArray fC.toArray n n2 dd Cy sl wU hsz) ⟨ho,XI,?_⟩ hu;rw[decide_eq_false e,Bool.false_and]at k;exact⟨(fun x=>nomatch x), .bl false,H,I,rfl,k⟩
end
section
variable{X:Cx}
end
end L2
namespace QF
open PySem L2
abbrev Pr:=Int×Int
def j6(p:Pr):List V:=[.int p.1, .int p.2]
def iQ(H:Hp)(vs:List V)(ps:List Pr):Prop:=vs.length=ps.length∧∀(i:Nat)(p:Pr),ps[i]?=some p→∃t,vs[i]?=some (V.ref t)∧H t=some (.tup (j6 p))
theorem iQ.nil{H:Hp}:iQ H [] []:=⟨rfl,fun i f e=>by simp at e⟩
theorem iQ.cq{H H':Hp}{xs:List V}{fs:List Pr}(T:iQ H xs fs)(k:d6 H H'):iQ H' xs fs:=⟨T.1,fun i f e=>let ⟨b,h1,h2⟩:=T.2 i f e;⟨b,h1,k _ _ h2⟩⟩
theorem iQ.same{H H':Hp}{xs:List V}{fs:List Pr}(t:iQ H xs fs)(s:au H H'):iQ H' xs fs:=t.cq (d6.same s)
theorem iQ.append{H:Hp}{xs ys:List V}{fs gs:List Pr}(T:iQ H xs fs)(U:iQ H ys gs):iQ H (xs++ys) (fs++gs):=by
 refine⟨by simp[T.1,U.1],fun i p e=>?_⟩;by_cases h:i<fs.length
 ·rw[List.getElem?_append_left h]at e;obtain⟨b,h1,h2⟩:=T.2 i p e;exact⟨b,by rw[List.getElem?_append_left (by rw[T.1];exact h)];exact h1,h2⟩
 ·rw[List.getElem?_append_right Xz]at e;obtain⟨b,h1,h2⟩:=U.2 _ p e;exact⟨b,by rw[List.getElem?_append_right (by rw[T.1];omega),T.1];exact h1,h2⟩
theorem iQ.one{H:Hp}{t:Addr}{p:Pr}(ht:H t=some (.tup (j6 p))):iQ H [.ref t] [p]:=by
 refine⟨rfl,fun i q e=>?_⟩
 match i,e with
 |0,e=>cases e;exact⟨t,rfl,ht⟩
 |i+1,e=>simp at e
def pr(ps:List Pr)(k:Nat):Pr:=ps.getD k (0,0)
theorem Gs{ps:List Pr}{k:Nat}(h:k<ps.length):ps[k]?=some (pr ps k):=by
 simp[pr,h]
theorem iQ.Pn{H:Hp}{xs:List V}{ps:List Pr}(T:iQ H xs ps){k:Nat}(h:k<ps.length):∃t,xs[k]?=some (V.ref t)∧H t=some (.tup [.int (pr ps k).1, .int (pr ps k).2]):=T.2 k _ (Gs h)
theorem EZ{ps:List Pr}{p:Pr}:pr (ps++[p]) ps.length=p:=by
 simp[pr,List.getD_eq_getElem?_getD]
structure Case where
 xs:List Str
 ys:List Str
 same:Int
 out:Int
 into:Int
 least:Int
 fs:List Form
structure oA(H:Hp)(a:Addr)(c:Case)(f g m l:Addr)(vs:List V):Prop where
 ca:H a=some (.lst [.ref f, .ref g, .ref m, .ref l])
 fi:H f=some (.lst (c.xs.map V.str))
 se:H g=some (.lst (c.ys.map V.str))
 nu:H m=some (.lst [.int c.same, .int c.out, .int c.into, .int c.least])
 ne:H l=some (.lst vs)
 tr:dH H vs c.fs
theorem oA.keep{H H':Hp}{a:Addr}{c:Case}{f g m l:Addr}{vs:List V}(C:oA H a c f g m l vs)(s:au H H'):oA H' a c f g m l vs:=⟨s _ _ C.ca,s _ _ C.fi,s _ _ C.se,s _ _ C.nu,s _ _ C.ne,C.tr.same s⟩
structure i4(most:Nat)(c:Case):Prop where
 x:c.xs.length≤most
 y:c.ys.length≤most
 good:bH c.fs=true
 same:1≤c.same∧c.same≤999999
 out:0≤c.out∧c.out≤999999
 into:0≤c.into∧c.into≤999999
 least:1≤c.least∧c.least≤999999
def wd(xs:List Str)(i:Int):Option Str:=if 0≤i then xs[i.toNat]? else none
theorem tN{xs:List Str}{i:Nat}:wd xs (i:Int)=xs[i]?:=by simp[wd]
theorem Gu{xs:List Str}{i:Int}(h0:0≤i)(h:i<(xs.length:Int)):∃x,wd xs i=some x∧sP (xs.map V.str) i=some (.str x):=by
 obtain⟨j,rfl⟩:=Int.eq_ofNat_of_zero_le h0;have hj:j<xs.length:=XB;exact⟨xs[j],by rw[tN];simp[hj],ax (by simp[hj])⟩
theorem Z2{xs:List Str}{i:Int}{x:Str}(h:wd xs i=some x):0≤i∧i<(xs.length:Int):=by
 unfold wd at h;split at h
 ·have:=(Xc h).1;omega
 ·cases h
def Case.pw(c:Case)(p:Pr):Option Int:=(wd c.xs p.1).bind fun x=>(wd c.ys p.2).bind fun y=>dI c.same c.fs x y
theorem Case.pw_of{c:Case}{p:Pr}{x y:Str}(h1:wd c.xs p.1=some x)(h2:wd c.ys p.2=some y):c.pw p=dI c.same c.fs x y:=by simp[Case.pw,h1,h2]
theorem Case.pw_in{c:Case}{p:Pr}{w:Int}(h:c.pw p=some w):(0≤p.1∧p.1<(c.xs.length:Int))∧(0≤p.2∧p.2<(c.ys.length:Int)):=by
 unfold Case.pw at h;cases e1:wd c.xs p.1 with
 |none=>rw[e1]at h;cases h
 |some x=>
  cases e2:wd c.ys p.2 with
  |none=>rw[e1,e2]at h;cases h
  |some y=>exact⟨Z2 e1,Z2 e2⟩
theorem Case.pw_out{c:Case}{p:Pr}(h:¬((0≤p.1∧p.1<(c.xs.length:Int))∧(0≤p.2∧p.2<(c.ys.length:Int)))):c.pw p=none:=by
 cases e:c.pw p with
 |none=>rfl
 |some w=>exact absurd (c.pw_in e) h
def XT(H:Hp)(CT t:Addr)(c:Case):Prop:=∃n dx l d vs,lE H CT t n c.fs dx l d vs∧n.same=c.same∧n.out=c.out∧n.into=c.into∧n.least=c.least
theorem XT.keep{H H':Hp}{CT t:Addr}{c:Case}(T:XT H CT t c)(s:au H H'):XT H' CT t c:=by
 obtain⟨n,dx,l,d,vs,T,r⟩:=T;exact⟨n,dx,l,d,vs,T.same s,r⟩
inductive tO(K:W.Frag)(vs:List V)(H:Hp)(Q:VK)(u3:XK):Prop
 |mk (a b x:Addr) (ns:List Int) (zs ws:List Str) (c p m:Int) (_:vs=[.ref a, .int c, .int p, .int m, .ref x, .ref b]) (_:jb K H a (ns.map V.int)) (_:H b=some (.lst (zs.map V.str))) (_:H x=some (.lst (ws.map V.str))) (_:(1≤zs.length∧zs.length≤1000)) (_:ws.length≤1000) (_:(∀w∈ws,w∈zs)) (_:0≤p) (_:0≤m) (_:m≤1000) (_:∀H' l (ws:List Str),au H H'→H l=none→H' l=some (.lst (ws.map V.str))→ws.length=m.toNat→(∀w∈ws,w∈zs)→Q (.ref l) H'):tO K vs H Q u3
inductive v_(K:W.Frag)(vs:List V)(H:Hp)(Q:VK)(u3:XK):Prop
 |mk (a:Addr) (ns:List Int) (most:Int) (_:vs=[.ref a, .int most]) (_:jb K H a (ns.map V.int)) (_:0≤most) (_:most≤40) (_:∀H' b c f g m l us,au H H'→H b=none→oA H' b c f g m l us→i4 most.toNat c→Q (.ref b) H'):v_ K vs H Q u3
inductive qT(C:Addr)(vs:List V)(H:Hp)(Q:VK)(u3:XK):Prop
 |mk (a:Addr) (c:Case) (f g m l:Addr) (us:List V) (most:Nat) (_:vs=[.ref a]) (_:oA H a c f g m l us) (_:i4 most c) (_:∀H' t,au H H'→XT H' C t c→Q (.ref t) H'):qT C vs H Q u3
inductive qU(vs:List V)(H:Hp)(Q:VK)(u3:XK):Prop
 |mk (a:Addr) (us:List V) (ps:List Pr) (_:vs=[.ref a]) (_:H a=some (.lst us)) (_:iQ H us ps) (_:Q (.bl true) H):qU vs H Q u3
end QF
namespace L2
open PySem PySem.Spec PyProof.Rows PySem.W PySem.Calls
section
variable{pg:Program}{wd:World}{Ar:Around}{Rs:Result→Shared→Prop}{it:Addr}{fp wr:List Addr}{n:Nat}{Pv:Nat→Value→Prop}{Sv:Nat→Heap→Prop}
def wb:(toString "max"++toString ".loop":String)="max.loop":=XC
theorem A3(Wk:Walks pg wd Ar.in1 it fp wr n Pv Sv)(bt:Nat→Nat→Bool)(cmp:CmpOf pg wd Ar.in1 .Gt Pv bt)(B:Addr)(nb:B∉fp)(dv:Value):
  ∀(k j:Nat)(st:Shared)(old:List Value)(c:Nat),n-j=k→j≤n→Sv j st.heap→((j=0∧old=[])∨∃vb,0<j∧old=[vb,vb]∧Pv (argBest bt (j-1)) vb)→
  st.heap.get? B=some {cls:= .type "list",dict:=none,data:= .seq old.toArray c,slots:=#[]}→
  (∀v h' tk,((n=0∧v=dv)∨(0<n∧Pv (argBest bt (n-1)) v))→(∀b o,b∉wr→b≠B→st.heap.get? b=some o→h'.get? b=some o)→Rs (.ok (.ret v)) {st with heap:=h',toks:=tk})→
  codeAny (model pg wd) Ar (.builtin "max.loop" ⟨[.ref it, .none, .ref B],[("default",dv)]⟩) Rs st:=by
 have nw:B∉wr:=fun z=>nb (Wk.sub _ z)
 intro k
 induction k with
 |zero=>
  intro j st old c ek lj sv ol eB fin;have ej:j=n:=by lia
  subst ej;refine codeAny_builtin F.entry_max_loop ?_;rw[Around.under_plainId F.plain_max_loop _];show wpAny _ Ar.in1 (seqItems? (.ref B)>>=_) _ _ st;refine wpAny_bind (wpAny_seqItems eB rfl ?_);show wpAny _ Ar.in1 (tryCatch (pyNext (.ref it)) _>>=_) _ _ st;refine wpAny_bind (wpAny_tryCatch (Wk.done st _ _ sv fun h' tk kp=>?_));rcases ol with⟨z0,rfl⟩|⟨vb,z0,rfl,pb⟩
  ·refine wpAny_bind (wpAny_rule (wpAny_pure ?_));exact fin dv _ tk (.inl ⟨z0,rfl⟩) fun b o hb _ e=>kp b o hb e
  ·have Io:=kp B _ nw eB;show wpAny _ Ar.in1 (updateSeq B (fun _=>#[])>>=_) _ _ _;refine wpAny_bind ?_;refine wpAny_updateSeq Io rfl (wpAny_bind (wpAny_letGo (wpAny_pure ?_)));exact fin vb _ tk (.inr ⟨z0,pb⟩) fun b o hb hB e=>(Heap.get?_update_other _ _ (Ne.symm hB)).trans (kp b o hb e)
 |succ k ih=>
  intro j st old c ek lj sv ol eB fin;have lt:j<n:=by lia
  refine codeAny_builtin F.entry_max_loop ?_;rw[Around.under_plainId F.plain_max_loop _];show wpAny _ Ar.in1 (seqItems? (.ref B)>>=_) _ _ st;refine wpAny_bind (wpAny_seqItems eB rfl ?_);show wpAny _ Ar.in1 (tryCatch (pyNext (.ref it)) _>>=_) _ _ st;refine wpAny_bind (wpAny_tryCatch (Wk.item j st _ _ lt sv fun v h' tk pv Po kp=>?_));have Io:=kp B _ nw eB;have up:∀(g:Array Value→Array Value)(b:Addr),b∈fp→∀o,h'.get? b=some o→(h'.update B (Obj.mapSeq g)).get? b=some o:=fun g b hb o e=>(Heap.get?_update_other _ _ (fun z:B=b=>nb (by rw[z];exact hb))).trans e
  rcases ol with⟨rfl,rfl⟩|⟨vb,z0,rfl,pb⟩
  ·show wpAny _ Ar.in1 (updateSeq B (fun _=>#[v,v])>>=_) _ _ _;refine wpAny_bind ?_;refine wpAny_updateSeq Io rfl ?_;rw[wb];refine wpAny_pure ⟨plainId_quiet F.plain_max_loop _,ih 1 _ [v,v] _ Xu lt (Wk.frame _ _ _ Po (up _)) (.inr ⟨v,XC,rfl,pv⟩) (Heap.get?_update_self _ Io rfl) fun v' h2 LH pf LI=>?_⟩;exact fin v' h2 LH pf fun b o hb hB e=>LI b o hb hB ((Heap.get?_update_other _ _ (Ne.symm hB)).trans (kp b o hb e))
  ·obtain⟨i,rfl⟩:∃i,j=i+1:=⟨j-1,by lia⟩
   have pb:Pv (argBest bt i) vb:=pb;show wpAny _ Ar.in1 (tryCatch (holding [v,v] (richCompare .Gt v vb>>=_)) _>>=_) _ _ _;refine wpAny_bind (wpAny_tryCatch (wpAny_holding (wpAny_bind (cmp (i+1) (argBest bt i) v vb _ _ _ pv pb ?_))));refine wpAny_bind (wpAny_holding (wpAny_truthy_bool ?_));refine wpAny_bind (wpAny_letGo (wpAny_pure ?_));cases hb:bt (i+1) (argBest bt i)with
   |true=>
    simp only[if_true];refine wpAny_bind ?_;refine wpAny_updateSeq Io rfl (wpAny_bind (wpAny_letGo ?_));rw[wb];refine wpAny_pure ⟨plainId_quiet F.plain_max_loop _,ih (i+2) _ [v,v] _ Xu lt (Wk.frame _ _ _ Po (up _)) (.inr ⟨v,by lia,rfl,?_⟩) (Heap.get?_update_self _ Io rfl) fun v' h2 LH pf LI=>?_⟩
    ·show Pv (argBest bt (i+1)) v;simp only[argBest,hb,if_true];exact pv
    ·exact fin v' h2 LH pf fun b o hb hB e=>LI b o hb hB ((Heap.get?_update_other _ _ (Ne.symm hB)).trans (kp b o hb e))
   |false=>
    simp only[Bool.false_eq_true,if_false];refine wpAny_bind (wpAny_letGo ?_);rw[wb];refine wpAny_pure ⟨plainId_quiet F.plain_max_loop _,ih (i+2) _ [vb,vb] c Xu lt Po (.inr ⟨vb,by lia,rfl,?_⟩) Io fun v' h2 LH pf LI=>?_⟩
    ·show Pv (argBest bt (i+1)) vb;simp only[argBest,hb,Bool.false_eq_true,if_false];exact pb
    ·exact fin v' h2 LH pf fun b o hb hB e=>LI b o hb hB (kp b o hb e)
theorem A4(a d:Value):argsOk "max" ⟨[a],[("default",d)]⟩:=by unfold argsOk;kernel_rfl
end
section
variable{X:Cx}
def Iq:Option Int→V
 |none=> .cI
 |some i=> .int i
theorem ZW{is:List Int}{us:List Value}(r:Vals (is.map V.int) us):us.length=is.length∧∀(j:Nat)(v:Value),us[j]?=some v→∃t,v= .int (is.getD j 0) t:=by
 have hl:=r.length;rw[List.length_map]at hl;refine⟨hl.symm,fun j v e=>?_⟩;have hj:j<is.length:=by have:=(Xc e).1;omega
 obtain⟨u,eu,ru⟩:=r.get (i:=j) (x:= .int is[j]) (by simp[hj]);rw[e]at eu;cases eu;obtain⟨t,rfl⟩:=ru;exact⟨t,by simp[hj]⟩
theorem Ir{is:List Int}{k:Nat}(hk:k<is.length)(h:∀j,j<is.length→is.getD j 0≤is.getD k 0):is.max?=some (is.getD k 0):=by
 rw[List.max?_eq_some_iff];refine⟨by simp[hk],fun b hb=>?_⟩;obtain⟨j,hj,rfl⟩:=List.mem_iff_getElem.mp hb;have:=h j hj;simpa[hj]using this
theorem A5(hc:X.calm=true){pins:List (Addr×Obj)}{s:Shared}{σ:St}{H:Hp}{a:Addr}{is:List Int}{Q:VK}(I:Inv X pins σ H s)(hq:jb X.K H a (is.map V.int))(q:Q (Iq is.max?) H):
  wpAny Xv X.A (call (.builtin "max") [.ref a] [("default", .none)]) (EP X pins σ Q) X.xe s:=by
 obtain⟨its,rv,p,hz⟩:=I.list hq;obtain⟨hl,hv⟩:=ZW rv;refine wpAny_call (codeAny_call_builtin F.plain_max F.entry_max ?_);simp only[checkBuiltinCall,F.kind_max];have body:wpAny Xv X.A.in1 (Builtin.«max» ⟨[.ref a],[("default", .none)]⟩) (fun fin s'=>match fin with
   | .done f=>(match (Except.ok f:Result)with| .ok (.ret v)=>EP X pins σ Q v s'| .ok _=>False| .error e=>X.xe e s')
   | .again c'=>c'.quiet=true∧codeAny Xv X.A c' (fun r s'=>match r with| .ok (.ret v)=>EP X pins σ Q v s'| .ok _=>False| .error e=>X.xe e s') s') X.xe s:=by
  show wpAny _ X.A.in1 (Builtin.Builtins.bindParams "max" ["key","default"] 0 ⟨[],[("default", .none)]⟩>>=_) _ _ s;refine wpAny_bind (wpAny_of_eq (show Builtin.Builtins.bindParams "max" ["key","default"] 0 ⟨[],[("default", .none)]⟩=pure [none,some .none]from rfl) ?_);refine wpAny_bind (wpAny_pure (wpAny_bind (wpAny_pyIter_list p.isList ?_)));have f9:a≠s.heap.objs.size:=by
   obtain⟨o,n,e,_⟩:=p;exact Nat.ne_of_lt (Heap.lt_size e)
  refine wpAny_bind (wpAny_newObj_type ?_);rw[wb];have eS:(s.heap.push {cls:= .type "list_iterator",data:= .fields #[.ref a, .int 0 0]}).objs.size=s.heap.objs.size+1:=by simp[Heap.push]
  have Wk:=Walks.list (prog:=X.prog) (w:=X.w) (A:=X.A.in1) (show X.A.in1.handled=none from I.ok.hd hc) s.heap.objs.size a f9 its.toArray;refine wpAny_pure ⟨plainId_quiet F.plain_max_loop _,A3 (pg:=X.prog) (wd:=X.w) Wk _ (CmpOf.ints_gt (fun j=>is.getD j 0) fun j v e=>hv j v (by simpa using e)) (s.heap.push {cls:= .type "list_iterator",data:= .fields #[.ref a, .int 0 0]}).objs.size ?_ .none _ 0 _ [] 0 rfl (Nat.zero_le _) ?_ (.inl ⟨rfl,rfl⟩) ?_ fun v h' tk pf kp=>?_⟩
  ·intro z;simp only[List.mem_cons,List.not_mem_nil,or_false]at z;rw[eS]at z;rcases z with z|z
   ·exact Nat.succ_ne_self _ z
   ·obtain⟨o,n,e,_⟩:=p;have lt:=Heap.lt_size e;rw[←z]at lt;exact Nat.lt_irrefl _ (Nat.lt_of_succ_lt lt)
  ·exact⟨⟨_,Xo (Heap.get?_push_size _ rfl),rfl,rfl⟩,p.isList.at fun o e=>Xo (Xo e)⟩
  ·exact Heap.get?_push_size _ rfl
  ·have keep:∀b o,s.heap.get? b=some o→h'.get? b=some o:=fun b o e=>by
    have lt:=Heap.lt_size e;refine kp b o (fun z=>?_) (fun z=>?_) (Xo (Xo e))
    ·have z:b=s.heap.objs.size:=by simpa using z
     rw[z]at lt;exact Nat.lt_irrefl _ lt
    ·rw[z,eS]at lt;exact Nat.lt_irrefl _ (Nat.lt_of_succ_lt lt)
   have sz:its.toArray.size=is.length:=by simp[hl]
   rcases pf with⟨h0,rfl⟩|⟨h0,pf⟩
   ·have:is=[]:=List.length_eq_zero_iff.mp Xz;subst this;exact⟨.cI,H,I.kept (t':=tk) keep,rfl,q⟩
   ·rw[List.getElem?_toArray]at pf;obtain⟨t,rfl⟩:=hv _ v pf;obtain⟨b1,b2⟩:=argBest_gt (fun j=>is.getD j 0) (its.toArray.size-1);have em:=Ir (is:=is) (k:=argBest (fun i j=>decide (is.getD i 0>is.getD j 0)) (its.toArray.size-1)) (XB) fun j hj=>b2 j Xz
    rw[em]at q;exact⟨.int _,H,I.kept (t':=tk) keep,⟨t,rfl⟩,q⟩
 cases Pp:Manifest.signature? "max" with
 |none=>exact wpAny_pure body
 |some sig=>
  have ha:=A4 (.ref a) .none;simp only[argsOk,Pp]at ha;have h2:Bind.checkArgs "max" sig ⟨[.ref a],[("default", .none)]⟩=pure ():=ha;show wpAny _ X.A.in1 (Bind.checkArgs "max" sig ⟨[.ref a],[("default", .none)]⟩) _ _ s;rw[h2];exact wpAny_pure body
def LJ(K:Frag)(ta:TE):TE:=fun σ H Q=>ta σ H fun x H1=>∃(a:Addr)(is:List Int),x= .ref a∧jb K H1 a (is.map V.int)∧Q (Iq is.max?) H1
theorem E2(K:Frag){e:Expr}{ta:TE}{p pos kp cp:Pos}{j:Nat}(hc:X.calm=true)(hg:Gl X "max")(hm:X.mg "max"=none)(he:PE X e ta)(hs:starEach [e] X.env=[(false,eval e X.env)]:=by rfl)(hK:X.K=K:=by rfl):
  PE X (.Call (.Name "max" p) [e] [⟨some "default", .Constant .none j cp,kp⟩] pos) (LJ K ta):=by
 subst hK;intro pins s σ H Q I h;refine wpAny_Call_Name_kw (mI I hg hm (PyProof.Rows.Boot.«max») ?_ (XC) (XC));rw[hs];refine callWith_builtin_kwB (first:=[]) rfl rfl (evalArgs_kwB rfl ?_);refine Calls.spliced_cons ?_;show wpAny _ _ (eval e X.env) _ _ s;refine cy (he pins s σ H _ I h) fun v s1 ⟨x,H1,I1,r1,q1⟩=>Calls.spliced_nil ?_
 obtain⟨a,is,rfl,hq,q⟩:=q1;cases r1;refine kws_cons ?_;refine Constant_none ?_;refine kws_nil ?_;exact A5 hc I1 hq q
def uv:List V→List V→Bool
 |[],[]=>true
 |x::xs,y::ys=>vL x y&&uv xs ys
 | _,_=>false
theorem oO:∀(xs ys:List V),((List.range (min xs.length ys.length)).all (fun j=>vL (xs.getD j .cI) (ys.getD j .cI))&&xs.length==ys.length)=uv xs ys
 |[],[]=>rfl
 |[],y::ys=>by simp[uv]
 |x::xs,[]=>by simp[uv]
 |x::xs,y::ys=>by
  have ih:=oO xs ys;simp only[uv];rw[←ih];have e:min (x::xs).length (y::ys).length=min xs.length ys.length+1:=by simp[Nat.succ_min_succ]
  rw[e,List.range_succ_eq_map,List.all_cons,List.all_map];simp only[List.getD_cons_zero,Function.comp_def,List.getD_cons_succ,List.length_cons,Bool.and_assoc]
  congr 2
  simp
theorem Ym{A:Around}{s:Shared}{xs ys:List V}{its fC:List Value}(r:Vals xs its)(r2:Vals ys fC)(f1:xs.all rP=true)(f2:ys.all rP=true):
  ∀j (h1:j<its.toArray.size) (h2:j<fC.toArray.size),SeqAt.EqAt A s its.toArray[j] fC.toArray[j] ((fun j=>vL (xs.getD j .cI) (ys.getD j .cI)) j):=by
 refine CK r r2 fun j x y hx hy=> .inl ⟨List.all_eq_true.mp f1 x (Xj hx),List.all_eq_true.mp f2 y (Xj hy),?_⟩
 simp[List.getD_eq_getElem?_getD,hx,hy]
open Classical in
end
theorem vf{K:Frag}{a:Addr}{xs:List V}{ls:List Str}{js:List Nat}{g:TG}{tt:TT}{te:TE}{σ:St}{H1:Hp}{D:Addr}{Q:VK}(Pv:Nat→List V→St→Hp→Prop)
  (h0:Pv 0 [] (mM ls js σ) (upd H1 D (.lst []))) (hl:∀i ys σ H,i≤xs.length→Pv i ys σ H→jb K H a xs)
  (hs:∀i x T ys σ H,xs[i]?=some x→Pv i ys σ H→H T=none→g (.ref T) σ (upd H T (.tup [.int i,x])) fun gc H3=>tt gc H3 fun b H4=>if b=true then te gc H4 fun y H5=>H5 D=some (.lst ys)∧ys.length<sizeLine∧Pv (i+1) (ys++[y]) gc (upd H5 D (.lst (ys++[y])))else Pv (i+1) ys gc H4)
  (hd:∀ys σ H,Pv xs.length ys σ H→Q (.ref D) H):
  tH (J5 K a) ls js g tt te σ H1 D Q:=
 pU (n:=xs.length) Pv h0 (fun i ys σ H hi p=>⟨xs,xs[i],hl i ys σ H (Nat.le_of_lt hi) p,by simp[hi]⟩) (fun ys σ H p=>⟨xs,hl _ ys σ H (Nat.le_refl _) p,Nat.le_refl _⟩)
  (fun i ys σ H x H2 hi p y=>by
   obtain⟨T,z,rfl,hT,rfl,hy⟩:=y;exact hs i z T ys σ H (hy xs (hl i ys σ H (Nat.le_of_lt hi) p)) p hT) hd
end L2
namespace QF
open PySem L2
def f_(S:Int→Prop):Option Int→Prop
 |none=>∀v,¬S v
 |some m=>S m∧∀v,S v→v≤m
theorem f_.iff{S T:Int→Prop}{a:Option Int}(ha:f_ S a)(h:∀v,S v↔T v):f_ T a:=by
 cases a with
 |none=>exact fun v hv=>ha v ((h v).mpr hv)
 |some m=>exact⟨(h m).mp ha.1,fun v hv=>ha.2 v ((h v).mpr hv)⟩
def bp:Option Int→Int→Option Int
 |none,_=>none
 |some v,p=>some (v-p)
theorem f_.less{S:Int→Prop}{a:Option Int}(ha:f_ S a)(p:Int):f_ (fun v=>∃u,S u∧v=u-p) (bp a p):=by
 cases a with
 |none=>exact fun v ⟨u,hu,_⟩=>ha u hu
 |some m=>
  refine⟨⟨m,ha.1,rfl⟩,?_⟩;rintro v ⟨u,hu,rfl⟩;have:=ha.2 u hu;omega
def pY(l:List (Option Int)):Option Int:=(l.filterMap id).max?
theorem lF(l:List (Option Int)):f_ (fun v=>some v∈l) (pY l):=by
 have key:∀v,v∈l.filterMap id↔some v∈l:=fun v=>by
  rw[List.mem_filterMap];exact⟨fun⟨o,ho,eo⟩=>by have eo:o=some v:=eo;rw[eo]at ho;exact ho,fun h=>⟨some v,h,rfl⟩⟩
 unfold pY;cases e:(l.filterMap id).max? with
 |none=>
  rw[List.max?_eq_none_iff]at e;intro v hv;have:=(key v).mpr hv;rw[e]at this;cases this
 |some m=>
  rw[List.max?_eq_some_iff]at e;exact⟨(key m).mp e.1,fun v hv=>e.2 v ((key v).mpr hv)⟩
theorem f_.Rv{S T:Int→Prop}{a:Option Int}(ha:f_ S a)(h1:∀v,S v→T v)(h2:∀v,T v→∃u,S u∧v≤u):f_ T a:=by
 cases a with
 |none=>
  intro v hv;obtain⟨u,hu,_⟩:=h2 v hv;exact ha u hu
 |some m=>
  refine⟨h1 m ha.1,fun v hv=>?_⟩;obtain⟨u,hu,hle⟩:=h2 v hv;have:=ha.2 u hu;omega
theorem ZZ{S1 S2 S3:Int→Prop}{a b c:Option Int}(h1:f_ S1 a)(h2:f_ S2 b)(h3:f_ S3 c):f_ (fun v=>S1 v∨S2 v∨S3 v) (pY [a,b,c]):=by
 refine(lF [a,b,c]).Rv (fun v hv=>?_) (fun v hv=>?_)
 ·simp only[List.mem_cons,List.not_mem_nil,or_false]at hv;rcases hv with e|e|e
  ·rw[←e]at h1;exact .inl h1.1
  ·rw[←e]at h2;exact .inr (.inl h2.1)
  ·rw[←e]at h3;exact .inr (.inr h3.1)
 ·have one:∀{S:Int→Prop}{o:Option Int},f_ S o→S v→o∈[a,b,c]→∃u,some u∈[a,b,c]∧v≤u:=fun{S o} hm hs ho=>by
   cases o with
   |none=>exact absurd hs (hm v)
   |some m=>exact⟨m,ho,hm.2 v hs⟩
  rcases hv with hs|hs|hs
  ·exact one h1 hs Xy
  ·exact one h2 hs Xy
  ·exact one h3 hs Xy
def YD(ps:List Pr):Pr:=pr ps (ps.length-1)
def X0(c:Case)(cB:List Pr)(p:Pr):Option Int:=if p∈cB then none else c.pw p
theorem ZM{ps:List Pr}{p:Pr}:YD (ps++[p])=p:=by
 unfold YD;rw[List.length_append];exact EZ
def E3:Option Int→Option Int→Option Int
 |none,_=>none
 |some w,none=>some w
 |some w,some b=>if b<0 then some w else some (w+b)
def Bq(f:Nat→Nat→Option Int)(o p:Int):Nat→Nat→Option Int
 |0,_=>none
 | _+1,0=>none
 |i+1,j+1=>pY [E3 (f i j) (Bq f o p i j),bp (Bq f o p i (j+1)) o,bp (Bq f o p (i+1) j) p]
termination_by i j=>(i,j)
def dj(f:Nat→Nat→Option Int)(o p:Int)(i j:Nat):Option Int:=E3 (f i j) (Bq f o p i j)
def mQ(c:Case)(cB:List Pr)(i j:Nat):Option Int:=X0 c cB ((i:Int),(j:Int))
theorem E4(o:Option Int):Iq o=bC o:=by cases o<;>rfl
def gj(H:Hp)(vs:List V)(L:List (List Pr)):Prop:=vs.length=L.length∧∀(k:Nat)(ps:List Pr),L[k]?=some ps→∃a us,vs[k]?=some (V.ref a)∧H a=some (.lst us)∧iQ H us ps
def LK(l:Addr)(vs:List V):Prop:=∀k:Nat,vs[k]?≠some (V.ref l)
theorem gj.nil{H:Hp}:gj H [] []:=⟨rfl,fun k ps e=>by simp at e⟩
theorem gj.same{H H':Hp}{vs:List V}{L:List (List Pr)}(w:gj H vs L)(s:au H H'):gj H' vs L:=⟨w.1,fun k ps e=>let ⟨a,us,h1,h2,h3⟩:=w.2 k ps e;⟨a,us,h1,s _ _ h2,h3.same s⟩⟩
theorem gj.put{H:Hp}{vs:List V}{L:List (List Pr)}{l:Addr}{zs:List V}{o:HO}(w:gj H vs L)(n:LK l vs)(h:H l=some (.lst zs)):gj (upd H l o) vs L:=⟨w.1,fun k ps e=>by
 obtain⟨a,us,h1,h2,h3⟩:=w.2 k ps e;refine⟨a,us,h1,?_,h3.cq (d6.lst h)⟩;rw[ai (fun z=>n k (by rw[h1,z]))];exact h2⟩
theorem gj.append{H:Hp}{vs ws:List V}{L M:List (List Pr)}(a:gj H vs L)(b:gj H ws M):gj H (vs++ws) (L++M):=by
 refine⟨by simp[a.1,b.1],fun i p e=>?_⟩;by_cases h:i<L.length
 ·rw[List.getElem?_append_left h]at e;obtain⟨x,us,h1,h2⟩:=a.2 i p e;exact⟨x,us,by rw[List.getElem?_append_left (by rw[a.1];exact h)];exact h1,h2⟩
 ·rw[List.getElem?_append_right Xz]at e;obtain⟨x,us,h1,h2⟩:=b.2 _ p e;exact⟨x,us,by rw[List.getElem?_append_right (by rw[a.1];omega),a.1];exact h1,h2⟩
theorem gj.one{H:Hp}{a:Addr}{us:List V}{ps:List Pr}(h:H a=some (.lst us))(P:iQ H us ps):gj H [.ref a] [ps]:=by
 refine⟨rfl,fun i q e=>?_⟩
 match i,e with
 |0,e=>cases e;exact⟨a,us,rfl,h,P⟩
 |i+1,e=>simp at e
def cU(m:Nat)(f:Nat→Option Int):List V:=(List.range m).map fun j=>bC (f j)
theorem cV(m:Nat)(f:Nat→Option Int):(cU m f).length=m:=by simp[cU]
theorem cW{m j:Nat}{f:Nat→Option Int}(h:j<m):(cU m f)[j]?=some (bC (f j)):=by simp[cU,h]
theorem qV(m:Nat)(f:Nat→Option Int):cU (m+1) f=cU m f++[bC (f m)]:=by simp[cU,List.range_succ]
structure jG(H:Hp)(as:List Addr)(f:Nat→Nat→Option Int)(n m:Nat):Prop where
 len:as.length=n
 row:∀(i:Nat)(a:Addr),as[i]?=some a→H a=some (.lst (cU m (f i)))
theorem jG.same{H H':Hp}{as:List Addr}{f:Nat→Nat→Option Int}{n m:Nat}(t:jG H as f n m)(s:au H H'):jG H' as f n m:=⟨t.len,fun i a e=>s _ _ (t.row i a e)⟩
theorem jG.at{H:Hp}{as:List Addr}{f:Nat→Nat→Option Int}{n m i:Nat}(t:jG H as f n m)(h:i<n):∃a,as[i]?=some a∧(as.map V.ref)[i]?=some (.ref a)∧H a=some (.lst (cU m (f i))):=by
 have hi:i<as.length:=by rw[t.len];exact h
 refine⟨as[i],by simp[hi],by simp[hi],t.row i _ (by simp[hi])⟩
def Tab(H H':Hp)(e:Addr)(f:Nat→Nat→Option Int)(n m:Nat):Prop:=∃as:List Addr,H' e=some (.lst (as.map V.ref))∧H e=none∧jG H' as f n m∧∀a∈as,H a=none
structure Z1(K:W.Frag)(C:Addr):Prop where
 cl:vE K C
 out:bQ K C "out"
 into:bQ K C "into"
 lG:bQ K C "ending"
 j_:bQ K C "brought"
def gZ(o p:Int)(e b:Addr):List (Str×V):=[("out", .int o),("into", .int p),("ending", .ref e),("brought", .ref b)]
theorem Gv(o p:Int)(e b:Addr):(gZ o p e b).lookup ("out":Str)=some (V.int o):=by kernel_rfl
theorem CL(o p:Int)(e b:Addr):(gZ o p e b).lookup ("into":Str)=some (V.int p):=by kernel_rfl
theorem iR(o p:Int)(e b:Addr):(gZ o p e b).lookup ("ending":Str)=some (V.ref e):=by kernel_rfl
theorem hJ(o p:Int)(e b:Addr):(gZ o p e b).lookup ("brought":Str)=some (V.ref b):=by kernel_rfl
theorem CM(o p:Int)(e b:Addr):(gZ o p e b).lookup ("brought_behind":Str)=none:=by kernel_rfl
theorem LL(o p:Int)(e b:Addr):bf "brought" (.ref b) (bf "ending" (.ref e) (bf "into" (.int p) (bf "out" (.int o) [])))=gZ o p e b:=by kernel_rfl
def sq(f g:Nat→Option Int)(o p:Int):Nat→Option Int
 |0=>none
 |j+1=>pY [f j,bp (g (j+1)) o,bp (sq f g o p j) p]
theorem Yp(f:Nat→Nat→Option Int)(o p:Int)(i:Nat):∀j,sq (dj f o p i) (Bq f o p i) o p j=Bq f o p (i+1) j
 |0=>by unfold sq Bq;rfl
 |j+1=>by
  rw[sq,Bq,Yp f o p i j];rfl
theorem jg(f:Nat→Nat→Option Int)(o p:Int)(j:Nat):Bq f o p 0 j=none:=by unfold Bq;rfl
inductive mR(vs:List V)(H:Hp)(Q:VK)(u3:XK):Prop
 |mk (a:Addr) (os:List (Option Int)) (_:vs=[.ref a]) (_:H a=some (.lst (os.map bC))) (_:os.length≤1000) (_:∀H',au H H'→Q (bC (pY os)) H'):mR vs H Q u3
inductive wc(vs:List V)(H:Hp)(Q:VK)(u3:XK):Prop
 |mk (o:Option Int) (p:Int) (_:vs=[bC o, .int p]) (_:Q (bC (bp o p)) H):wc vs H Q u3
inductive YZ(vs:List V)(H:Hp)(Q:VK)(u3:XK):Prop
 |mk (w b:Option Int) (_:vs=[bC w,bC b]) (_:Q (bC (E3 w b)) H):YZ vs H Q u3
inductive qW(C:Addr)(vs:List V)(H:Hp)(Q:VK)(u3:XK):Prop
 |mk (x e a dx te tb:Addr) (o p:Int) (m:Nat) (f g:Nat→Option Int) (_:vs=[.ref x, .ref e, .ref a]) (_:H x=some (.ins C dx (gZ o p te tb))) (_:H e=some (.lst (cU m f))) (_:H a=some (.lst (cU (m+1) g))) (_:m≤1000) (_:∀H' r,au H H'→H r=none→H' r=some (.lst (cU (m+1) (sq f g o p)))→Q (.ref r) H'):qW C vs H Q u3
def CO(H:Hp)(v:V)(cB:List Pr):Prop:=(v= .cI∧cB=[])∨∃l us,v= .ref l∧H l=some (.lst us)∧iQ H us cB
def aZ(p:Pr):List Key:=[.inl p.1, .inl p.2]
def oB(kvs:List (List Key×V))(cB:List Pr):Prop:=∀p:Pr,(bo kvs (aZ p)).isSome=decide (p∈cB)
inductive we(vs:List V)(H:Hp)(Q:VK)(u3:XK):Prop
 |mk (v:V) (cB:List Pr) (_:vs=[v]) (_:CO H v cB) (_:cB.length≤1000) (_:∀H' d kvs,au H H'→H' d=some (.dT kvs)→oB kvs cB→Q (.ref d) H'):we vs H Q u3
theorem iQ.last{H:Hp}{xs:List V}{ps:List Pr}(P:iQ H xs ps)(f9:ps≠[]):∃t,sP xs (-1)=some (.ref t)∧H t=some (.tup [.int (YD ps).1, .int (YD ps).2]):=by
 have hp:0<ps.length:=List.length_pos_iff.mpr f9;have hl:=P.1;obtain⟨t,h1,h2⟩:=P.Pn (k:=ps.length-1) (by lia);refine⟨t,?_,h2⟩;have e:xs=xs.take (ps.length-1)++[V.ref t]:=by
  apply List.ext_getElem?;intro n;by_cases hn:n<ps.length-1
  ·rw[List.getElem?_append_left (by rw[List.length_take];lia),List.getElem?_take,Xp hn]
  ·rw[List.getElem?_append_right (by rw[List.length_take];lia),List.length_take];by_cases wQ:n=ps.length-1
   ·subst wQ;rw[h1];have:ps.length-1-min (ps.length-1) xs.length=0:=by lia
    rw[this];rfl
   ·rw[List.getElem?_eq_none Xu,List.getElem?_eq_none (by simp;lia)]
 rw[e];exact ZK _ _
theorem Yw(p q:Pr):uv (j6 p) (j6 q)=decide (p=q):=by
 simp only[j6,uv,vL,Bool.and_true];rw[Bool.eq_iff_iff];simp[Prod.ext_iff]
theorem CP{m j:Nat}{f:Nat→Option Int}{u:Option Int}:(cU m f).set j (bC u)=cU m (fun k=>if k=j then u else f k):=by
 apply List.ext_getElem?;intro k;by_cases hk:k<m
 ·rw[cW hk];by_cases e:j=k
  ·subst e;rw[List.getElem?_set_self (by rw[cV];exact hk)];simp
  ·rw[List.getElem?_set_ne e,cW hk];have:¬k=j:=fun z=>e z.symm
   simp[this]
 ·rw[List.getElem?_eq_none (by rw[List.length_set,cV];omega),List.getElem?_eq_none (by rw[cV];omega)]
end QF
namespace L2
open PySem PySem.Spec PyProof.Rows PySem.W PySem.Calls
section
variable{X:Cx}{tg:Expr}
end
section
variable{X:Cx}
end
section
variable{X:Cx}
end
end L2
namespace QF
open PySem L2
def Pq(fs:List Form)(x t:Str):Bool:=decide (x=t)||fs.any fun f=>(decide (f.1=x)&&decide (f.2.1=t))||(decide (f.1=t)&&decide (f.2.1=x))
def LM(fs:List Form)(t:Str):List Str:=[t]++(fs.filter fun f=>decide (f.1=t)).map (·.2.1)++(fs.filter fun f=>decide (f.2.1=t)).map (·.1)
def Gx(p:Nat→Bool):Nat→Int
 |0=> -1
 |n+1=>if p n then(n:Int)else Gx p n
structure NS where
 ws:List Str
 ts:List Str
 fs:List Form
 span:Nat
def NS.p(c:NS)(t:Str)(i:Nat):Bool:=match c.ws[i]? with
 |some x=>Pq c.fs x t
 |none=>false
def NS.LN(c:NS)(n:Nat):List Int:=c.ts.map fun t=>Gx (c.p t) n
def NS.low(c:NS)(n:Nat):Int:=((c.LN n).min?).getD (-1)
def NS.at_(c:NS)(h:Nat):Option Pr:=if c.low h<c.low (h+1)∧(h:Int)-c.low (h+1)<c.span then some (c.low (h+1),(h:Int))else none
def NS.told(c:NS)(k:Nat):List Pr:=(List.range k).filterMap c.at_
def NS.holds(c:NS)(l h:Nat):Bool:=c.ts.all fun t=>(((c.ws.map fun x=>decide (x∈LM c.fs t)).drop l).take (h-l)).any id
def NS.ok(c:NS)(l h:Nat):Bool:=c.holds l (h+1)&&!(c.holds (l+1) (h+1))&&!(c.holds l h)
def NS.row(c:NS)(l k:Nat):List Pr:=(List.range k).filterMap fun d=>if c.ok l (l+d)=true then some ((l:Int),((l+d:Nat):Int))else none
def NS.WD(c:NS)(i:Nat):List Pr:=(List.range i).flatMap fun l=>c.row l (min c.ws.length (l+c.span)-l)
end QF
namespace L2
open PySem PySem.Spec PyProof.Rows PySem.W PySem.Calls
section
variable{X:Cx}{tg:Expr}
end
section
variable{pg:Program}{wd:World}{Ar:Around}{sh:Shared}{Rs:Result→Shared→Prop}{it:Addr}{fp wr:List Addr}{Gn:Array GenState→Array GenState→Prop}{n:Nat}{Pv:Nat→Value→Prop}{Sv:Nat→Shared→Prop}
end
section
variable{X:Cx}
end
end L2
namespace QF
open PySem L2
def X3(q p:Pr):Prop:=q.1<p.1∧q.2<p.2
def gp(o i:Int)(q p:Pr):Int:=o*(p.1-q.1-1)+i*(p.2-q.2-1)
structure Wy(g:Pr→Option Int)(ps:List Pr):Prop where
 ne:ps≠[]
 ok:∀p∈ps,(g p).isSome=true
 up:ps.Pairwise X3
def vl(g:Pr→Option Int)(o i:Int):List Pr→Int
 |[]=>0
 |[p]=>(g p).getD 0
 |p::q::r=>(g p).getD 0-gp o i p q+vl g o i (q::r)
def lH(ps:List Pr):Pr:=ps.headD (0,0)
def lstP(ps:List Pr):Pr:=ps.getLastD (0,0)
theorem d8{ps:List Pr}{p:Pr}:lstP (ps++[p])=p:=by simp[lstP]
theorem wg(g:Pr→Option Int)(o i:Int)(q:Pr)(bs:List Pr):∀(as:List Pr),vl g o i (as++q::bs)=vl g o i (as++[q])+vl g o i (q::bs)-(g q).getD 0
 |[]=>by simp only[List.nil_append,vl];omega
 |[a]=>by
  simp only[List.cons_append,List.nil_append,vl];omega
 |a::b::r=>by
  have ih:=wg g o i q bs (b::r);simp only[List.cons_append]at ih⊢;simp only[vl];rw[ih];omega
theorem sT(g:Pr→Option Int)(o i:Int){ps:List Pr}(f9:ps≠[])(p:Pr):vl g o i (ps++[p])=(g p).getD 0+vl g o i ps-gp o i (lstP ps) p:=by
 obtain⟨qs,q,rfl⟩:∃qs q,ps=qs++[q]:=⟨ps.dropLast,ps.getLast f9,(List.dropLast_concat_getLast f9).symm⟩
 rw[d8,List.append_assoc];have:=wg g o i q [p] qs;simp only[List.singleton_append]at this⊢;rw[this];simp only[vl];omega
theorem Wy.one{g:Pr→Option Int}{p:Pr}(h:(g p).isSome=true):Wy g [p]:=by
 refine⟨XE,fun q hq=>?_,XE⟩;have e:q=p:=by simpa using hq
 rw[e];exact h
theorem qX{a b c:Pr}(h1:X3 a b)(h2:X3 b c):X3 a c:=⟨Int.lt_trans h1.1 h2.1,Int.lt_trans h1.2 h2.2⟩
theorem pw_lst{ps:List Pr}(h:ps.Pairwise X3){q:Pr}(hq:q∈ps):q=lstP ps∨X3 q (lstP ps):=by
 have f9:ps≠[]:=fun z=>by rw[z]at hq;cases hq
 obtain⟨qs,x,rfl⟩:∃qs x,ps=qs++[x]:=⟨ps.dropLast,ps.getLast f9,(List.dropLast_concat_getLast f9).symm⟩
 rw[d8];rcases List.mem_append.mp hq with hq|hq
 ·exact .inr ((List.pairwise_append.mp h).2.2 q hq x Xy)
 ·exact .inl (by simpa using hq)
theorem Wy.snoc{g:Pr→Option Int}{ps:List Pr}{p:Pr}(w:Wy g ps)(h:(g p).isSome=true)(s:X3 (lstP ps) p):Wy g (ps++[p]):=by
 refine⟨XE,fun q hq=>?_,List.pairwise_append.mpr ⟨w.up,XE,fun a ha b hb=>?_⟩⟩
 ·rcases List.mem_append.mp hq with hq|hq
  ·exact w.ok q hq
  ·have:q=p:=by simpa using hq
   rw[this];exact h
 ·have:b=p:=by simpa using hb
  rw[this];rcases pw_lst w.up ha with e|e
  ·rw[e];exact s
  ·exact qX e s
theorem Wy.split{g:Pr→Option Int}{ps:List Pr}(w:Wy g ps):∃qs,ps=qs++[lstP ps]∧(∃v,g (lstP ps)=some v)∧(qs=[]∨(Wy g qs∧X3 (lstP qs) (lstP ps))):=by
 obtain⟨qs,x,rfl⟩:∃qs x,ps=qs++[x]:=⟨ps.dropLast,ps.getLast w.ne,(List.dropLast_concat_getLast w.ne).symm⟩
 rw[d8];refine⟨qs,rfl,Option.isSome_iff_exists.mp (w.ok x Xy),?_⟩;by_cases e:qs=[]
 ·exact .inl e
 ·have h:=List.pairwise_append.mp w.up;refine .inr ⟨⟨e,fun q hq=>w.ok q (List.mem_append_left _ hq),h.1⟩,h.2.2 _ ?_ x Xy⟩;obtain⟨rs,y,rfl⟩:∃rs y,qs=rs++[y]:=⟨qs.dropLast,qs.getLast e,(List.dropLast_concat_getLast e).symm⟩
  rw[d8];simp
theorem cH{ps:List Pr}(h:ps≠[]):lstP ps∈ps:=by
 obtain⟨rs,y,rfl⟩:∃rs y,ps=rs++[y]:=⟨ps.dropLast,ps.getLast h,(List.dropLast_concat_getLast h).symm⟩
 rw[d8];simp
def lf(f:Nat→Nat→Option Int)(p:Pr):Option Int:=if 0≤p.1∧0≤p.2 then f p.1.toNat p.2.toNat else none
theorem qY(f:Nat→Nat→Option Int)(i j:Nat):lf f ((i:Int),(j:Int))=f i j:=by simp[lf]
theorem ZF{f:Nat→Nat→Option Int}{p:Pr}(h:(lf f p).isSome=true):∃i j:Nat,p=((i:Int),(j:Int)):=by
 unfold lf at h;split at h
 ·rename_i hh
  exact⟨p.1.toNat,p.2.toNat,Prod.ext (by simp;omega) (by simp;omega)⟩
 ·cases h
def Np(f:Nat→Nat→Option Int)(o p:Int)(i j:Nat)(v:Int):Prop:=∃ps,Wy (lf f) ps∧(lstP ps).1<(i:Int)∧(lstP ps).2<(j:Int)∧v=vl (lf f) o p ps-(o*((i:Int)-1-(lstP ps).1)+p*((j:Int)-1-(lstP ps).2))
def Nq(f:Nat→Nat→Option Int)(o p:Int)(q:Pr)(v:Int):Prop:=∃ps,Wy (lf f) ps∧lstP ps=q∧v=vl (lf f) o p ps
theorem Yt{f:Nat→Nat→Option Int}{o p:Int}{i j:Nat}{b:Option Int}(h:f_ (Np f o p i j) b):f_ (Nq f o p ((i:Int),(j:Int))) (E3 (f i j) b):=by
 cases e:f i j with
 |none=>
  rintro v ⟨ps,w,el,rfl⟩;obtain⟨qs,_,⟨x,hx⟩,_⟩:=w.split;rw[el,qY,e]at hx;cases hx
 |some x=>
  have eg:lf f ((i:Int),(j:Int))=some x:=by rw[qY];exact e
  have YI:∀ps,Wy (lf f) ps→lstP ps=((i:Int),(j:Int))→vl (lf f) o p ps=x∨∃v,Np f o p i j v∧vl (lf f) o p ps=x+v:=fun ps w el=>by
   obtain⟨qs,eq,_,hq⟩:=w.split;rw[el]at eq hq;rcases hq with rfl|⟨wq,st⟩
   ·left
    rw[eq];simp[vl,eg]
   ·right
    refine⟨_,⟨qs,wq,st.1,st.2,rfl⟩,?_⟩;rw[eq,sT _ _ _ wq.ne,eg];simp only[gp,Option.getD_some];have e1:(i:Int)-(lstP qs).1-1=(i:Int)-1-(lstP qs).1:=XB;have e2:(j:Int)-(lstP qs).2-1=(j:Int)-1-(lstP qs).2:=XB;rw[e1,e2];omega
  have alone:Nq f o p ((i:Int),(j:Int)) x:=⟨[((i:Int),(j:Int))], .one (by rw[eg];rfl),rfl,by simp[vl,eg]⟩
  have more:∀v,Np f o p i j v→Nq f o p ((i:Int),(j:Int)) (x+v):=by
   rintro v ⟨ps,w,l1,l2,rfl⟩;refine⟨ps++[((i:Int),(j:Int))],w.snoc (by rw[eg];rfl) ⟨l1,l2⟩,d8,?_⟩;rw[sT _ _ _ w.ne,eg];simp only[gp,Option.getD_some];have e1:(i:Int)-(lstP ps).1-1=(i:Int)-1-(lstP ps).1:=XB;have e2:(j:Int)-(lstP ps).2-1=(j:Int)-1-(lstP ps).2:=XB;rw[e1,e2];omega
  cases b with
  |none=>
   refine⟨alone,?_⟩;rintro v ⟨ps,w,el,rfl⟩;rcases YI ps w el with h1|⟨u,hu,_⟩
   ·omega
   ·exact absurd hu (h u)
  |some m=>
   simp only[E3];split
   ·refine⟨alone,?_⟩;rintro v ⟨ps,w,el,rfl⟩;rcases YI ps w el with h1|⟨u,hu,h2⟩
    ·omega
    ·have:=h.2 u hu;omega
   ·refine⟨more m h.1,?_⟩;rintro v ⟨ps,w,el,rfl⟩;rcases YI ps w el with h1|⟨u,hu,h2⟩
    ·omega
    ·have:=h.2 u hu;omega
theorem Yl{f:Nat→Nat→Option Int}{ps:List Pr}(w:Wy (lf f) ps):0≤(lstP ps).1∧0≤(lstP ps).2:=by
 obtain⟨a,b,e⟩:=ZF (w.ok _ (cH w.ne));rw[e];simp
theorem f'(f:Nat→Nat→Option Int)(o p:Int):∀i j:Nat,f_ (Np f o p i j) (Bq f o p i j)
 |0,j=>by
  unfold Bq;rintro v ⟨ps,w,l1,_⟩;have:=Yl w;simp at l1;omega
 |i+1,0=>by
  unfold Bq;rintro v ⟨ps,w,_,l2,_⟩;have:=Yl w;simp at l2;omega
 |i+1,j+1=>by
  rw[Bq];refine(ZZ (Yt (f' f o p i j)) ((f' f o p i (j+1)).less o) ((f' f o p (i+1) j).less p)).iff fun v=>?_
  constructor
  ·rintro(⟨ps,w,el,rfl⟩|⟨u,⟨ps,w,l1,l2,rfl⟩,rfl⟩|⟨u,⟨ps,w,l1,l2,rfl⟩,rfl⟩)
   ·refine⟨ps,w,by rw[el];simp;omega,by rw[el];simp;omega,?_⟩;rw[el];have e1:((i+1:Nat):Int)-1-(i:Int)=0:=XB;have e2:((j+1:Nat):Int)-1-(j:Int)=0:=XB;simp only[e1,e2,Int.mul_zero];omega
   ·refine⟨ps,w,XB,XB,?_⟩;have e1:((i+1:Nat):Int)-1-(lstP ps).1=((i:Int)-1-(lstP ps).1)+1:=XB;rw[e1,Int.mul_add];omega
   ·refine⟨ps,w,XB,XB,?_⟩;have e1:((j+1:Nat):Int)-1-(lstP ps).2=((j:Int)-1-(lstP ps).2)+1:=XB;rw[e1,Int.mul_add];omega
  ·rintro⟨ps,w,l1,l2,rfl⟩;by_cases h1:(lstP ps).1<(i:Int)
   ·right;left
    refine⟨_,⟨ps,w,h1,l2,rfl⟩,?_⟩;have e1:((i+1:Nat):Int)-1-(lstP ps).1=((i:Int)-1-(lstP ps).1)+1:=XB;rw[e1,Int.mul_add];omega
   ·by_cases h2:(lstP ps).2<(j:Int)
    ·right;right
     refine⟨_,⟨ps,w,l1,h2,rfl⟩,?_⟩;have e1:((j+1:Nat):Int)-1-(lstP ps).2=((j:Int)-1-(lstP ps).2)+1:=XB;rw[e1,Int.mul_add];omega
    ·left
     have a1:(lstP ps).1=(i:Int):=XB;have a2:(lstP ps).2=(j:Int):=XB;refine⟨ps,w,Prod.ext a1 a2,?_⟩;have e1:((i+1:Nat):Int)-1-(lstP ps).1=0:=XB;have e2:((j+1:Nat):Int)-1-(lstP ps).2=0:=XB;simp only[e1,e2,Int.mul_zero];omega
termination_by i j=>(i,j)
theorem tP(f:Nat→Nat→Option Int)(o p:Int)(i j:Nat):f_ (Nq f o p ((i:Int),(j:Int))) (dj f o p i j):=Yt (f' f o p i j)
def fr(f:Nat→Nat→Option Int)(n m:Nat)(a b:Nat):Option Int:=if a<n∧b<m then f (n-1-a) (m-1-b)else none
def Bx(f:Nat→Nat→Option Int)(n m:Nat):Prop:=∀i j,(f i j).isSome=true→i<n∧j<m
theorem CQ(c:Case)(cB:List Pr)(p:Pr):lf (mQ c cB) p=X0 c cB p:=by
 unfold lf;split
 ·rename_i h
  unfold mQ
  congr 1
  exact Prod.ext (by simp;omega) (by simp;omega)
 ·rename_i h
  unfold X0;split
  ·rfl
  ·exact(c.pw_out Xz).symm
theorem Iu(c:Case)(cB:List Pr):Bx (mQ c cB) c.xs.length c.ys.length:=fun i j h=>by
 unfold mQ X0 at h;split at h
 ·cases h
 ·obtain⟨w,hw⟩:=Option.isSome_iff_exists.mp h;have:=c.pw_in hw;simp at this;omega
end QF
namespace L2
open PySem PySem.Spec PyProof.Rows PySem.W PySem.Calls
section
variable{X:Cx}
open Classical in
end
end L2
namespace QF
open PySem L2
theorem iQ.first{H:Hp}{xs:List V}{ps:List Pr}(P:iQ H xs ps)(f9:ps≠[]):∃t,sP xs 0=some (.ref t)∧H t=some (.tup [.int (lH ps).1, .int (lH ps).2]):=by
 cases ps with
 |nil=>exact absurd rfl f9
 |cons p r=>
  obtain⟨t,h1,h2⟩:=P.2 0 p rfl;exact⟨t,ax (j:=0) h1,h2⟩
end QF
namespace L2
open PySem PySem.Spec PyProof.Rows PySem.W PySem.Calls
section
variable{prog:Program}{w:World}{κ:Type}[DecidableEq κ]{knd:HeapKind prog w κ}{A:Around}{E:Value→Shared→Prop}{s:Shared}
theorem vh{α β:Type}(f:α→β):∀(xs:List α)(j:Nat),(xs.eraseIdx j).map f=(xs.map f).eraseIdx j
 |[],_=>XE
 | _::_,0=>XE
 | _::r,j+1=>by simp[vh f r j]
theorem A6{xs:List (κ×Addr×Value)}(hn:(xs.map (·.1)).Nodup):∀{j:Nat}{k:κ}{p:Addr×Value},xs[j]?=some (k,p)→xs.eraseIdx j=xs.filter fun x=>decide (x.1≠k):=by
 induction xs with
 |nil=>intro j k p h;simp at h
 |cons x r ih=>
  intro j k p h;have BJ:=List.nodup_cons.mp (by simpa using hn:(x.1::r.map (·.1)).Nodup);cases j with
  |zero=>
   have:x=(k,p):=by simpa using h
   subst this;have hf:r.filter (fun x=>decide (x.1≠k))=r:=List.filter_eq_self.mpr fun y hy=>by
    have:y.1≠k:=fun e=>BJ.1 (List.mem_map.mpr ⟨y,hy,e⟩)
    simpa using this
   simp only[List.eraseIdx_cons_zero,List.filter_cons];rw[hf];simp
  |succ j=>
   have hj:r[j]?=some (k,p):=by simpa using h
   have hx:x.1≠k:=fun e=>BJ.1 (e▸(List.mem_map.mpr ⟨(k,p),Xj hj,rfl⟩))
   simp only[List.eraseIdx_cons_succ,List.filter_cons];rw[ih BJ.2 hj,Xp (by simpa using hx)]
theorem wj{d a:Addr}{xs:List (κ×Addr×Value)}{k:κ}{p:Addr×Value}{Q:Option DictEntry→Shared→Prop}(hu:knd.room A)(pI:knd.is s.heap k a)(hm:s.heap.DictOfH knd d xs)(hp:atKey xs k=some p)(hsz:xs.length≤sizeLine)
  (h:∀h' e,e.val=p.2→h'.DictOfH knd d (xs.filter fun x=>decide (x.1≠k))→Heap.SameBut d s.heap h'→Q (some e) {s with heap:=h',toks:=s.toks+knd.draws k}):wpAny Xx A (Builtin.Dict.takeOut d (.ref a)) Q E s:=by
 obtain⟨o,es,ep,ho,hc,hd,he,Pt,hn⟩:=hm;unfold Builtin.Dict.takeOut
 try with_reducible refine wpAny_holding ?_
 refine wpAny_bind (knd.pyHash hu pI ?_);refine wpAny_bind (wpAny_dictFind_heap (s:={s with toks:=s.toks+knd.draws k}) hu pI ho hd he Pt hn ?_ ?_)
 ·intro A7;rw[atKey_none_of_get A7]at hp;cases hp
 ·intro j q hj;have eq:q=p:=by rw[atKey_of_get hn hj]at hp;exact Xs hp
  subst eq;refine wpAny_bind (wpAny_dictEntries (s:={s with toks:=s.toks+knd.draws k}) ho hd ?_);rw[entry_at he j,hj];refine wpAny_bind (wpAny_updateDictKeys (hz:=by have e:=size_of_entries he;omega) (s:={s with toks:=s.toks+knd.draws k}) ho hd (wpAny_pure (h _ _ rfl ⟨_,_,ep+1,Heap.get?_update_self _ ho (Obj.isFreed_of_dict (Obj.data_mapDictKeys hd _)),
   hc.mapDictKeys _,Obj.data_mapDictKeys hd _,?_,?_,?_⟩ (Heap.SameBut.update ..))))
  ·rw[←A6 hn hj,vh,←he];obtain⟨l⟩:=es;simp
  ·intro x hx;exact knd.keeps (Pt x (List.mem_filter.mp hx).1) ho hd (Heap.SameBut.update ..)
  ·exact hn.sublist (List.filter_sublist.map _)
theorem Ze(d a:Addr):
  MeetsIn prog w (Builtin.«dict.pop» ⟨[.ref d, .ref a],[]⟩) (fun A R s=>knd.room A.in1∧∃k xs p,knd.is s.heap k a∧s.heap.DictOfH knd d xs∧xs.length≤sizeLine∧atKey xs k=some p∧
   ∀h',h'.DictOfH knd d (xs.filter fun x=>decide (x.1≠k))→Heap.SameBut d s.heap h'→R (.ok (.ret p.2)) {s with heap:=h',toks:=s.toks+knd.draws k}):=
 .of_wp fun A R s ⟨hu,k,xs,p,pI,hm,hsz,hp,h⟩=>by
  obtain⟨o,es,ep,ho,hc,hd,he,Pt,hn⟩:=id hm;have f9:es.isEmpty=false:=by
   cases hx:xs with
   |nil=>rw[hx]at hp;cases hp
   |cons x r=>
    have:=size_of_entries he;rw[hx]at this;simp at this;rw[Array.isEmpty_eq_false_iff];intro e;rw[e]at this;simp at this
  unfold Builtin.«dict.pop»;refine wpAny_bind ?_;unfold Builtin.Dict.keyAndDefault;refine wpAny_bind (wpAny_notOrdered_dict hm.typeIs ?_);show wpAny _ _ (pure (d,Value.ref a,none)) _ _ s;refine wpAny_pure ?_;have LO:(keyPart (Value.ref a)).isSome=false:=rfl;simp only[LO,Bool.false_eq_true,if_false];refine wpAny_bind (wpAny_dictEntries ho hd (wpAny_bind (wpAny_pure ?_)));rw[f9];simp only[Bool.false_eq_true,if_false];refine wpAny_bind (wj hu pI hm hp hsz fun h' e Uq Gj oz=>?_);simp only[Option.isNone_some,Bool.false_eq_true,if_false];exact wpAny_bind (wpAny_letGo (wpAny_pure ⟨e.val,rfl,by rw[Uq];exact h h' Gj oz⟩))
end
section
variable{X:Cx}{pins:List (Addr×Obj)}{σ:St}{H:Hp}{s:Shared}{a:Addr}{u:Value}{A:Around}{E:Value→Shared→Prop}{kvs:List (List Key×V)}
theorem KT.drop{xs:List (List Key×Addr×Value)}(r:KT H kvs xs)(k:List Key):KT H (jB kvs k) (xs.filter fun x=>decide (x.1≠k)):=by
 unfold jB
 induction r with
 |nil=>exact .nil
 |cons z t ih=>
  simp only[List.filter_cons];rw[z.1];split
  ·exact .cons z ih
  ·exact ih
theorem Iv{v:V}{k:List Key}{b:Addr}{Q:Value→Shared→Prop}(hu:A.units+1<cLine)(I:Inv X pins σ H s)(e:H a=some (.dT kvs))(eb:H b=some (.tup (k.map kV)))(l:bo kvs k=some v)
  (h:∀w' s',Inv X pins σ (upd H a (.dT (jB kvs k))) s'→RelV v w'→Q w' s'):wpAny Xv A (call (.builtin "dict.pop") [.ref a, .ref b]) Q E s:=by
 obtain⟨z,hd,xs,rel,dd⟩:=Gd I.bO e;have rv:=rel.val k;rw[l]at rv;obtain⟨w',hw,oq⟩:=lz.some_of rv;obtain⟨p,hp,rfl⟩:=Option.map_eq_some_iff.mp hw;refine call_meetsIn PySem.F.slot_dict_pop dd.typeIs PySem.F.entry_dict_pop (PySem.F.args_dict_pop_2 _ _) (Ze (knd:=tupleKind (cS X.prog X.w)) a b)
  ⟨tupleKind_room_in1 hu,k,xs,p,oK I.bO eb,dd,by rw[←Paired.length rel];exact z,hp,fun h' D1 hs=>h _ _ ?_ oq⟩
 obtain⟨q,es,ep,hq,h2,h3,h4,_,h5⟩:=D1;refine vH I (by rw[e];exact True.intro) hs ⟨q,hq⟩ ⟨Nat.le_trans (Ys kvs k) z,hd,_,(rel.drop k).keeps fun c ys ec=>?_,q,es,ep,hq,h2,h3,h4,h5⟩;rw[ai (jy ec e (fun z=>nomatch z))];exact ec
end
inductive Gy(x y:V)(H:Hp)(Q:VK):Prop
 |mk (a b:Addr) (kvs:List (List Key×V)) (k:List Key) (v:V) (_:x= .ref a) (_:y= .ref b) (_:H a=some (.dT kvs)) (_:H b=some (.tup (k.map kV))) (_:bo kvs k=some v) (_:Q v (upd H a (.dT (jB kvs k)))):Gy x y H Q
def LP(td ty:TE):TE:=fun σ H Q=>td σ H fun x H1=>∃a,x= .ref a∧OP H1 a∧ty σ H1 fun y H2=>Gy x y H2 Q
theorem CS{X:Cx}{o e:Expr}{apos d_:Pos}{td ty:TE}(hu:X.A.units+1<cLine)(ho:PE X o td)(he:PE X e ty)(m:M1 X o "pop" apos e d_):PE X (.Call (.Attribute o "pop" apos) [e] [] d_) (LP td ty):=by
 intro pins s σ H Q I h;refine wpAny_Call_method m.base m.wR m.line PySem.F.plainAttrs_dict PySem.F.slot_dict_pop PySem.F.type_dict_pop (cy (ho pins s σ H _ I h) fun u s1 ⟨x,H1,I1,rx,a,ex,d,q1⟩=>?_);subst ex;obtain rfl:u=Value.ref a:=rx;obtain⟨t1,t2,_⟩:=B4 I1 d;refine⟨t1,t2,?_⟩;rw[m.trees];refine Calls.callWith_builtin rfl (Calls.evalArgs_plain (Calls.spliced_cons (cy (he pins s1 σ H1 _ I1 q1) fun iv s2 ⟨y,H2,I2,ry,q2⟩=>Calls.spliced_nil ?_)));obtain⟨a',b,kvs,k,v,e1,rfl,e2,e3,l,q⟩:=q2;cases e1;obtain rfl:iv=Value.ref b:=ry;exact Iv hu I2 e2 e3 l fun w' s3 I3 oq=>⟨v,_,I3,oq,q⟩
section
variable{prog:Program}{w:World}{A:Around}{E:Value→Shared→Prop}{s:Shared}{it d:Addr}{i ep:Nat}{od:Obj}{es:Array DictEntry}{Q:Option Value→Shared→Prop}
theorem CU(hit:s.heap.IsValIter it d i es.size ep)(Gz:s.heap.get? d=some od)(GA:od.data= .dict es ep)(hi:i<es.size)
  (hQ:∀h',h'.IsValIter it d (i+1) es.size ep→Heap.SameBut it s.heap h'→Q (some es[i].val) {s with heap:=h'}):wpAny Xx A (pyNext (.ref it)) Q E s:=by
 obtain⟨o,ho,hc,hd⟩:=id hit;have T:=hit.typeIs;have A7:Builtin.Dict_items.ownsTuple "dict_valueiterator"=false:=XC;unfold pyNext;refine wpAny_bind (wpAny_attempt (wpAny_callSpecial?_slot (name:=Str.ofString "__next__") T F.slot_dict_valueiterator_next (wpAny_call_entry F.slot_dict_valueiterator_next T F.entry_dict_valueiterator_next ?_ (F.args_dict_valueiterator_next_1 _))));refine wpAny_bind (wpAny_pure (wpAny_bind (wpAny_bind ?_)));first|refine wpAny_bind (wpAny_typeNameOfWhole_valiter T (wpAny_pure ?_))|refine wpAny_bind (wpAny_typeNameOf_valiter T (wpAny_pure ?_))
 refine wpAny_bind (wpAny_fieldsOf ho hd ?_);simp only[A7,Bool.false_eq_true,if_false];show wpAny _ _ (if (Value.ref d==Value.none)=true then _ else _) _ _ s;rw[Xm (show ¬((Value.ref d==Value.none)=true)from Bool.false_ne_true)];refine wpAny_bind (wpAny_pure (wpAny_bind (wpAny_dictEntries Gz GA ?_)));rw[if_neg Xy];refine wpAny_bind (wpAny_pure (wpAny_bind (wpAny_dictEpoch Gz GA ?_)));rw[if_neg Xy];refine wpAny_pure ?_;simp only[show ¬((i:Int)<0)from by omega,if_false,Int.toNat_natCast,Array.getElem?_eq_getElem hi];refine wpAny_bind ?_;first|refine wpAny_bind (wpAny_typeNameOfWhole_valiter T (wpAny_pure ?_))|refine wpAny_bind (wpAny_typeNameOf_valiter T (wpAny_pure ?_))
 refine wpAny_bind (wpAny_isOneOf_valiter T ?_);show wpAny _ _ (setField (.ref it) 1 (rawInt ((i:Int)+1))>>=_) _ _ s;refine wpAny_bind (wpAny_setField ho hd Xy ?_);have ht:(s.heap.update it (Obj.mapFields (·.setIfInBounds 1 (rawInt ((i:Int)+1))))).IsValIter it d (i+1) es.size ep:=
  ⟨_,Heap.get?_update_self _ ho (Obj.isFreed_of_fields (Obj.data_mapFields hd _)),(Obj.cls_mapFields ..).trans hc,by rw[Obj.data_mapFields hd];simp[rawInt]⟩
 refine wpAny_bind (wpAny_holding (wpAny_bind (wpAny_isOneOf_valiter (s:={s with heap:=s.heap.update it (Obj.mapFields (·.setIfInBounds 1 (rawInt ((i:Int)+1))))}) ht.typeIs ?_)));refine wpAny_bind (wpAny_isOneOf_valiter (s:={s with heap:=s.heap.update it (Obj.mapFields (·.setIfInBounds 1 (rawInt ((i:Int)+1))))}) ht.typeIs ?_);show wpAny _ _ (pure es[i].val) _ _ _;exact wpAny_pure (wpAny_pure ⟨_,rfl,wpAny_pure (hQ _ ht (Heap.SameBut.update ..))⟩)
theorem E5(hh:A.handled=none)(hit:s.heap.IsValIter it d i es.size ep)(Gz:s.heap.get? d=some od)(GA:od.data= .dict es ep)(hi:es.size≤i)
  (hQ:∀h',Heap.ExtBut it s.heap h'→Q none {s with heap:=h'}):wpAny Xx A (pyNext (.ref it)) Q E s:=by
 obtain⟨o,ho,hc,hd⟩:=id hit;have T:=hit.typeIs;have A7:Builtin.Dict_items.ownsTuple "dict_valueiterator"=false:=XC;unfold pyNext;refine wpAny_bind (wpAny_attempt (wpAny_callSpecial?_slot (name:=Str.ofString "__next__") T F.slot_dict_valueiterator_next (wpAny_call_entry F.slot_dict_valueiterator_next T F.entry_dict_valueiterator_next ?_ (F.args_dict_valueiterator_next_1 _))));refine wpAny_bind (wpAny_pure (wpAny_bind (wpAny_bind ?_)));first|refine wpAny_bind (wpAny_typeNameOfWhole_valiter T (wpAny_pure ?_))|refine wpAny_bind (wpAny_typeNameOf_valiter T (wpAny_pure ?_))
 refine wpAny_bind (wpAny_fieldsOf ho hd ?_);simp only[A7,Bool.false_eq_true,if_false];show wpAny _ _ (if (Value.ref d==Value.none)=true then _ else _) _ _ s;rw[Xm (show ¬((Value.ref d==Value.none)=true)from Bool.false_ne_true)];refine wpAny_bind (wpAny_pure (wpAny_bind (wpAny_dictEntries Gz GA ?_)));rw[if_neg Xy];refine wpAny_bind (wpAny_pure (wpAny_bind (wpAny_dictEpoch Gz GA ?_)));rw[if_neg Xy];refine wpAny_pure ?_;simp only[show ¬((i:Int)<0)from by omega,if_false,Int.toNat_natCast,Array.getElem?_eq_none hi];refine wpAny_bind ?_;first|refine wpAny_bind (wpAny_typeNameOfWhole_valiter T (wpAny_pure ?_))|refine wpAny_bind (wpAny_typeNameOf_valiter T (wpAny_pure ?_))
 show wpAny _ _ (setField (.ref it) 0 .none>>=_) _ _ s;refine wpAny_bind (wpAny_setField ho hd Xy ?_);show wpAny _ _ (newExc (.type "StopIteration") []>>=_) _ _ _;refine wpAny_bind ?_;simp only[newExc,newTuple];refine wpAny_bind (wpAny_newObj_type ?_ (by size_fits));refine wpAny_bind (m:=firstArgMember _ _) (wpAny_of_eq (a:=Value.none) (by first|rfl|(simp only[firstArgMember];rfl)) ?_);refine wpAny_newObj_type ?_ (by size_fits);simp only[raiseNew];refine wpAny_bind (wpAny_handled ?_);rw[show A.in1.handled=none from hh];refine wpAny_bind (wpAny_pure (wpAny_throw ?_));refine wpAny_bind (wpAny_isInstance (T:="StopIteration") (b:=true) ⟨_,Heap.get?_push_size _ rfl,rfl⟩ isSubtype_stop ?_);exact wpAny_pure (hQ _ (((Heap.SameBut.update ..).extBut.push _).push _))
end
theorem vi{α β:Type}{F:α→β→Prop}:∀{l:List α}{m:List β}{i:Nat}{a:α},Paired F l m→l[i]?=some a→∃b,m[i]?=some b∧F a b
 | _,_,_,_, .nil,e=>by simp at e
 | _,_,0,_, .cons r _,e=>by simp at e;subst e;exact⟨_,rfl,r⟩
 | _,_,i+1,_, .cons _ t,e=>by
  obtain⟨b,h,f⟩:=vi (i:=i) t (by simpa using e);exact⟨b,by simpa using h,f⟩
def Pu(d:Addr)(o:Obj)(kvs:List (List Key×V)):It:=
 ⟨fun i H=>H d=some (.sN o (.dT kvs))∧i<kvs.length,fun i H x H'=>H'=H∧∃p,kvs[i]?=some p∧x=p.2,fun i H=>H d=some (.sN o (.dT kvs))∧kvs.length≤i⟩
theorem Z7{P:Program}{w:World}{H:Hp}{h:Heap}{d:Addr}{o:Obj}{kvs:List (List Key×V)}{es:Array DictEntry}{ep:Nat}(ok:mH P w H h)(e:H d=some (.sN o (.dT kvs)))(hd:o.data= .dict es ep):
  h.get? d=some o∧es.size=kvs.length∧∀i (hi:i<es.size) p,kvs[i]?=some p→RelV p.2 es[i].val:=by
 obtain⟨q1,_,_,xs,r,o',M7,M8,z1,z2,z3,z4,_⟩:=ok d _ e;rw[q1]at z1;cases z1;rw[hd]at z3;cases z3;have hs:=size_of_entries z4;have hl:=Paired.length r;refine⟨q1,by rw[hs,hl],fun i hi p hp=>?_⟩;obtain⟨x,hx,rx⟩:=vi r hp;have e1:=entry_at z4 i;rw[hx,Array.getElem?_eq_getElem hi]at e1;have:es[i]=entryOfKey (tupleKind (cS P w)) x:=Xs e1;rw[this];exact rx.2.2
theorem turn_val{P:Program}{w:World}{K:Frag}{tg:Expr}{it d:Addr}{o:Obj}{kvs:List (List Key×V)}{es:Array DictEntry}{ep:Nat}(hd:o.data= .dict es ep):Turn P w K tg (Pu d o kvs) [it] it (fun i h=>h.IsValIter it d i es.size ep) where
 mem:=XE
 obj:=fun i h st b hb=>by
  have e:b=it:=by simpa using hb
  subst e;obtain⟨o,e,c,d⟩:=st;exact⟨o,e,fun v z=>by rw[d]at z;cases z⟩
 keep:=fun i h h' st k=>let ⟨o,ho,r⟩:=st;⟨o,k it (XE) o ho,r⟩
 item:=by
  intro X hP hw hK hc i pins s σ H E I hf st hg;subst hP hw hK;obtain⟨hg,hi⟩:=hg;obtain⟨f0,f1,f2,f3,f4,f5⟩:=hf it (XE);obtain⟨g1,g2,g3⟩:=Z7 I.bO hg hd;have XQ:i<es.size:=XB;refine CU st g1 hd XQ fun h' aN sb=>?_
  have I1:Inv X pins σ H {s with heap:=h'}:=I.turned (t':=s.toks) (fun b o hb e=>(sb.2 b hb).trans e) f0 f1 f3 f4 f5;obtain⟨oi,q1,q2,q3⟩:=id aN;exact⟨_,rfl,Y3 (s:={s with heap:=h'}) q1 q2 q3 (XC) ⟨_,H,I1,g3 i XQ kvs[i] (by simp[hi]),⟨rfl,kvs[i],by simp[hi],rfl⟩,aN,fun b hb=>(hf b hb).1⟩⟩
 done:=by
  intro X hP hw hK hc i pins s σ H E I hf st hg;subst hP hw hK;obtain⟨hg,hi⟩:=hg;obtain⟨f0,f1,f2,f3,f4,f5⟩:=hf it (XE);obtain⟨g1,g2,g3⟩:=Z7 I.bO hg hd;exact E5 (I.ok.hd hc) st g1 hd Xz fun h' eb=>⟨rfl,I.turned (t':=s.toks) (fun b o hb e=>eb b o hb e) f0 f1 f3 f4 f5⟩
 self:=fun _ _ _ _ _ st h=>wpAny_pyIter_valiter st h
section
variable{prog:Program}{w:World}{A:Around}{E:Value→Shared→Prop}{s:Shared}
theorem A8(d:Addr)(hd:(d==sysModules)=false):MeetsIn prog w (Builtin.«dict.values» ⟨[.ref d],[]⟩) (fun _ R s=>s.TypeIs (.ref d) "dict"∧
   R (.ok (.ret (.ref s.heap.objs.size))) {s with heap:=s.heap.push {cls:= .type "dict_values",data:= .fields #[.ref d]}}):=
 .of_wp fun A R s ⟨ht,h⟩=>by
  refine wpAny_bind ?_;unfold Builtin.Dict.noArgs;refine wpAny_bind (wpAny_notOrdered_dict ht ?_);show wpAny _ _ (pure d) _ _ s;refine wpAny_pure ?_;show wpAny _ _ (Builtin.Dict.showsAll d>>=_) _ _ s;unfold Builtin.Dict.showsAll;rw[Xm (by rw[hd];exact Bool.false_ne_true)];exact wpAny_bind (wpAny_pure (wpAny_bind (wpAny_newObj_type (wpAny_pure ⟨_,rfl,h⟩))))
theorem A9{v d:Addr}{od:Obj}{es:Array DictEntry}{ep:Nat}{Q:Value→Shared→Prop}(hv:s.heap.IsValuesView v d)(Gz:s.heap.get? d=some od)(GA:od.data= .dict es ep)
  (hQ:Q (.ref s.heap.objs.size) {s with heap:=s.heap.push {cls:= .type "dict_valueiterator",data:= .fields #[.ref d, .int 0 0, .int es.size 0, .int ep 0]}}):wpAny Xx A (pyIter (.ref v)) Q E s:=by
 obtain⟨ov,Ur,WE,Us⟩:=id hv;refine wpAny_pyIter_slot hv.typeIs F.slot_dict_values_iter (wpAny_call_entry F.slot_dict_values_iter hv.typeIs F.entry_dict_values_iter ?_ (F.args_dict_values_iter_1 _));unfold Builtin.«dict_values.__iter__»;refine wpAny_bind (wpAny_pure (wpAny_bind ?_));unfold Builtin.Dict_items.dictOf;refine wpAny_bind (wpAny_field Ur Us (x:= .ref d) rfl (wpAny_pure (wpAny_bind ?_)));unfold Builtin.Dict_items.newIterator;refine wpAny_bind (wpAny_dictEntries Gz GA (wpAny_bind (wpAny_dictEpoch Gz GA ?_)));have A7:Builtin.Dict_items.ownsTuple "dict_valueiterator"=false:=XC;simp only[A7,Bool.false_eq_true,if_false];refine wpAny_newObj_type (wpAny_pure ⟨_,rfl,"dict_valueiterator",_,⟨_,Heap.get?_push_size _ rfl,rfl⟩,F.slot_dict_valueiterator_next.lookup,?_⟩);simpa[rawInt]using hQ
end
def LQ(eL:Hp)(tl:TE):TI:=fun σ H R=>tl σ H fun x H1=>∃d kvs,x= .ref d∧H1 d=some (.dT kvs)∧∀o,NF eL d→R (Pu d o kvs) (upd H1 d (.sN o (.dT kvs)))
theorem E6{X:Cx}(eL:Hp){tg o:Expr}{tl:TE}{apos d_:Pos}(hl:PE X o tl)(pM:attributeBase o "values" X.env (eval o X.env)=eval o X.env:=by rfl)(pN:(apos.endLine==d_.line)=true:=by rfl)(hH:X.eL=eL:=by rfl):
  PI X tg (.Call (.Attribute o "values" apos) [] [] d_) (LQ eL tl):=by
 subst hH;intro pins s σ H R I h;refine wpAny_Call_method0_late pM pN (cy (hl pins s σ H _ I h) fun v s1 ⟨x,H1,I1,r1,q1⟩=>?_);obtain⟨d,kvs,e,hd,q⟩:=q1;subst e;cases r1;obtain⟨z1,z2,xs,r,o,es,ep,g1,g2,g3,g4,g5⟩:=I1.bO d _ hd;have nf:NF X.eL d:=fun o v e=>by
  have:=I1.base.pD d o v e;rw[hd]at this;cases this
 refine⟨"dict",_,F.plainAttrs_dict,F.slot_dict_values,F.type_dict_values,⟨o,g1,g2.1⟩,fun b hb=>?_,Calls.callWith_builtin rfl (PySem.evalArgs_none ?_)⟩
 ·cases hb;exact⟨o,g1,g2.2.1⟩
 refine call_meetsIn F.slot_dict_values ⟨o,g1,g2.1⟩ F.entry_dict_values (F.args_dict_values_1 _) (A8 d z2) ⟨⟨o,g1,g2.1⟩,?_⟩;have Ut:=Heap.get?_push_of_some {cls:= .type "dict_values",data:= .fields #[.ref d]} g1;refine A9 (s:={s1 with heap:=s1.heap.push {cls:= .type "dict_values",data:= .fields #[.ref d]}}) ⟨_,Heap.get?_push_size _ rfl,rfl,rfl⟩ Ut g3 ?_;have Iz:Inv X pins σ (upd H1 d (.sN o (.dT kvs))) s1:=I1.swap hd (fun _ z=>nomatch z) (fun _ z=>nomatch z) (fun _ z=>nomatch z) nf ⟨g1,z1,z2,xs,KT.keeps r (fun c ys ec=>by rw[ai (jy ec hd (fun z=>nomatch z))];exact ec),o,es,ep,g1,g2,g3,g4,g5⟩;have I2:=Iz.kept (t':=s1.toks) fun b o e=>Heap.get?_push_of_some {cls:= .type "dict_values",data:= .fields #[.ref d]} e
 refine⟨_,[_],_,_,_,rfl,I2.kept (t':=s1.toks) fun b o e=>Xo e,turn_val (o:=o) (kvs:=kvs) g3,⟨_,Heap.get?_push_size _ rfl,rfl,rfl⟩,fun b hb=>?_,q o nf⟩;have e:b=(s1.heap.push {cls:= .type "dict_values",data:= .fields #[.ref d]}).objs.size:=by simpa using hb
 subst e;exact I2.uq (Nat.le_refl _) (I2.bO.fresh (Nat.le_refl _))
structure Y'(n:Nat)(lt:Nat→Nat→Bool):Prop where
 tr:∀i j k,i<n→j<n→k<n→lt i j=true→lt j k=true→lt i k=true
 as:∀i j,i<n→j<n→lt i j=true→lt j i=false
 Px:∀i j,i<n→j<n→i≠j→lt i j=true∨lt j i=true
def wV(n:Nat)(p:Array Nat):Prop:=p.toList.Perm (List.range n)
abbrev gd(p:Array Nat)(k:Nat):Nat:=p.getD k 0
theorem CV(p:Array Nat)(k:Nat):gd p k=(p[k]?).getD 0:=by unfold gd;rw[Array.getD_eq_getD_getElem?]
theorem wV.size{n:Nat}{p:Array Nat}(h:wV n p):p.size=n:=by have:=h.length_eq;simpa using this
def Sd(lt:Nat→Nat→Bool)(p:Array Nat)(m:Nat):Prop:=∀i j,i<j→j<m→lt (gd p i) (gd p j)=true
section
variable{n:Nat}{lt:Nat→Nat→Bool}(L:Y' n lt)
include L
omit L in
omit L in
omit L in
end
def xA:Bool→Keyed→Array Keyed→Nat→Nat→Nat→StateT SortSt Sem (Option Nat):=sortPriv%PySem.Builtin.gallop
def Iw:Array Keyed→Array Keyed→StateT SortSt Sem (Array Keyed):=sortPriv%PySem.Builtin.mergeLo
def Iy:Array Keyed→Array Keyed→StateT SortSt Sem (Array Keyed):=sortPriv%PySem.Builtin.mergeHi
def Y2(l:Bool)(key:Keyed)(xs:Array Keyed)(b i:Nat):StateT SortSt Sem (Option Bool):=do
 let x←elem' xs (b+i)
 if l then lt' x key else return (←lt' key x).map (!·)
theorem E7(l:Bool)(key:Keyed)(xs:Array Keyed)(b n h:Nat):xA l key xs b n h=(do
 let mut u:=0
 let mut v:=1
 let mut lo:=0
 let mut hi:=0
 let some r←Y2 l key xs b h|return none
 if r then
  let mx:=n-h
  for _ in [0:n] do
   if v≥mx then break
   let some z←Y2 l key xs b (h+v)|return none
   if !z then break
   u:=v
   v:=2*v+1
  lo:=h+u+1
  hi:=h+min v mx
 else
  let mx:=h+1
  for _ in [0:n] do
   if v≥mx then break
   let some z←Y2 l key xs b (h-v)|return none
   if z then break
   u:=v
   v:=2*v+1
  lo:=h+1-min v mx
  hi:=h-u
 for _ in [0:n] do
  if lo≥hi then break
  let m:=lo+(hi-lo)/2
  let some z←Y2 l key xs b m|return none
  if z then lo:=m+1 else hi:=m
 return some hi):=rfl
section
variable{prog:Program}{w:World}{A:Around}{E:Value→Shared→Prop}{s:Shared}
structure CW(prog:Program)(w:World)(A:Around)(s:Shared)(X:List Keyed)(κ:SortKind)(lt:Keyed→Keyed→Bool):Prop where
 run:∀x∈X,∀y∈X,∀C:Bool→Shared→Prop,C (lt x y) s→wpAny Xx A (keyLt' κ x.1 y.1) C (fun _ _=>False) s
 tr:∀x∈X,∀y∈X,∀z∈X,lt x y=true→lt y z=true→lt x z=true
 as:∀x∈X,∀y∈X,lt x y=true→lt y x=false
 Px:∀x∈X,∀y∈X,x≠y→lt x y=true∨lt y x=true
 nd:X.Nodup
variable{X:List Keyed}{κ:SortKind}{lt:Keyed→Keyed→Bool}(C:CW prog w A s X κ lt)
include C
theorem CW.no{x y:Keyed}(h1:x∈X)(h2:y∈X)(hn:x≠y)(h:lt x y=false):lt y x=true:=(C.Px x h1 y h2 hn).resolve_left (by rw[h];simp)
theorem CW.ask{st:SortSt}{x y:Keyed}{Q:Option Bool→SortSt→Prop}(hk:kindOf st=κ)(h1:x∈X)(h2:y∈X)(h:Q (some (lt x y)) st):wpS Xx A E s (lt' x y) Q st:=by
 rw[lt'_eq];refine wpS_bind (wpS_get ?_);rw[hk];refine wpS_bind (wpS_lift (wpAny_attempt (wpAny_mono (C.run x h1 y h2 (fun b s'=>b=lt x y∧s'=s) ⟨rfl,rfl⟩) ?_ fun _ _ e=>e.elim)));rintro b s' ⟨rfl,rfl⟩;exact⟨rfl,wpS_pure h⟩
omit C in
theorem eQ{st:SortSt}{xs:Array Keyed}{i:Nat}{x:Keyed}{Q:Keyed→SortSt→Prop}(e:xs[i]?=some x)(h:Q x st):wpS Xx A E s (elem' xs i) Q st:=by
 rw[elem'_eq,e];exact wpS_pure h
def mD(lt:Keyed→Keyed→Bool)(l:Bool)(key x:Keyed):Bool:=if l then lt x key else !lt key x
theorem sU{st:SortSt}{l:Bool}{key x:Keyed}{xs:Array Keyed}{b i:Nat}{Q:Option Bool→SortSt→Prop}(hk:kindOf st=κ)(h1:key∈X)(h2:x∈X)(e:xs[b+i]?=some x)(h:Q (some (mD lt l key x)) st):wpS Xx A E s (Y2 l key xs b i) Q st:=by
 unfold Y2;refine wpS_bind (eQ e ?_);cases l with
 |true=>exact C.ask hk h2 h1 h
 |false=>exact wpS_bind (C.ask hk h1 h2 (wpS_pure h))
theorem qZ{st:SortSt}{l:Bool}{key:Keyed}{xs:Array Keyed}{b n h:Nat}{Q:Option Nat→SortSt→Prop}(g:Nat→Keyed)(hk:kindOf st=κ)(h1:key∈X)(hg:∀i,i<n→xs[b+i]?=some (g i)∧g i∈X)(O4:∀i j,i<j→j<n→lt (g i) (g j)=true)(hh:h<n)
  (q:∀k,k≤n→(∀i,i<k→mD lt l key (g i)=true)→(∀i,k≤i→i<n→mD lt l key (g i)=false)→Q (some k) st):wpS Xx A E s (xA l key xs b n h) Q st:=by
 have dn:∀i j,i≤j→j<n→mD lt l key (g j)=true→mD lt l key (g i)=true:=fun i j uk hj hb=>by
  by_cases e:i=j
  ·rw[e];exact hb
  have hl:=O4 i j Xu hj;unfold mD at hb⊢;cases l with
  |true=>exact C.tr _ (hg i Xu).2 _ (hg j hj).2 _ h1 hl hb
  |false=>
   simp only[Bool.false_eq_true,if_false,Bool.not_eq_true']at hb⊢;cases e2:lt key (g i)with
   |false=>rfl
   |true=>rw[C.tr _ h1 _ (hg i Xu).2 _ (hg j hj).2 e2 hl]at hb;cases hb
 have up:∀i j,i≤j→j<n→mD lt l key (g i)=false→mD lt l key (g j)=false:=fun i j uk hj hb=>by
  cases e:mD lt l key (g j)with
  |false=>rfl
  |true=>rw[dn i j uk hj e]at hb;cases hb
 have bin:∀lo hi,lo≤hi→hi≤n→(∀i,i<lo→mD lt l key (g i)=true)→(∀i,hi≤i→i<n→mD lt l key (g i)=false)→wpS Xx A E s (do
   let r←forIn [0:n] ((none,lo,hi):Option (Option Nat)×Nat×Nat) fun _ __s=>
    if __s.2.1≥__s.2.2 then pure (ForInStep.done (none,__s.2.1,__s.2.2))
    else do
     let __x←Y2 l key xs b (__s.2.1+(__s.2.2-__s.2.1)/2)
     match __x with
     |some z=>if z=true then pure (ForInStep.yield (none,__s.2.1+(__s.2.2-__s.2.1)/2+1,__s.2.2))else pure (ForInStep.yield (none,__s.2.1,__s.2.1+(__s.2.2-__s.2.1)/2))
     | _=>pure (ForInStep.done (some none,__s.2.1,__s.2.2))
   match r.1 with
   |some r=>pure r
   |none=>pure (some r.2.2)) Q st:=fun lo hi h2 h3 h4 h5=>by
  refine wpS_bind (wpS_mono (wpS_forRange (I:=fun x c aN=>aN=st∧∃lo hi,c=(none,lo,hi)∧lo≤hi∧hi≤n∧(∀i,i<lo→mD lt l key (g i)=true)∧(∀i,hi≤i→i<n→mD lt l key (g i)=false)∧hi-lo+x≤n) (Q:=fun c aN=>aN=st∧∃k,c.1=none∧c.2.2=k∧k≤n∧(∀i,i<k→mD lt l key (g i)=true)∧(∀i,k≤i→i<n→mD lt l key (g i)=false)) ?_ ?_ ⟨rfl,lo,hi,rfl,h2,h3,h4,h5,by lia⟩) ?_)
  ·rintro x c aN _ hx ⟨rfl,lo,hi,rfl,a1,a2,a3,a4,a5⟩;dsimp only;by_cases Rw:lo≥hi
   ·rw[Xp Rw];have:lo=hi:=by lia
    subst this;exact wpS_pure ⟨rfl,lo,rfl,rfl,a2,a3,a4⟩
   ·rw[Xm Rw];have hm:lo+(hi-lo)/2<n:=by lia
    obtain⟨g1,g2⟩:=hg _ hm;refine wpS_bind (sU C hk h1 g2 g1 ?_);dsimp only;cases e:mD lt l key (g (lo+(hi-lo)/2))with
    |true=>
     simp only[if_true];exact wpS_pure ⟨rfl,_,hi,rfl,by lia,a2,fun i XQ=>dn i _ Xu hm e,a4,by lia⟩
    |false=>
     simp only[Bool.false_eq_true,if_false];exact wpS_pure ⟨rfl,lo,_,rfl,by lia,by lia,a3,fun i XQ pC=>up _ i XQ pC e,by lia⟩
  ·rintro c aN ⟨rfl,lo,hi,rfl,a1,a2,a3,a4,a5⟩;have:lo=hi:=by lia
   subst this;exact⟨rfl,lo,rfl,rfl,a2,a3,a4⟩
  ·rintro⟨c1,c2,c3⟩ aN ⟨rfl,k,e1,e2,a2,a3,a4⟩;dsimp only at e1 e2⊢;subst e1 e2;exact wpS_pure (q _ a2 a3 a4)
 rw[E7];obtain⟨Uu,Uv⟩:=hg h hh;refine wpS_bind (sU C hk h1 Uv Uu ?_);dsimp only;cases e:mD lt l key (g h)with
 |true=>
  simp only[if_true];refine wpS_bind (wpS_mono (wpS_forRange (I:=fun x c aN=>aN=st∧∃u v,c=(none,u,v)∧u<v∧h+u<n∧mD lt l key (g (h+u))=true∧x<v) (Q:=fun c aN=>aN=st∧∃u v,c=(none,u,v)∧u<v∧h+u<n∧mD lt l key (g (h+u))=true∧(n-h≤v∨(h+v<n∧mD lt l key (g (h+v))=false))) ?_ ?_ ⟨rfl,0,1,rfl,by lia,by lia,e,by lia⟩) ?_)
  ·rintro x c aN _ hx ⟨rfl,u,v,rfl,a1,a2,a3,a4⟩;dsimp only;by_cases hv:v≥n-h
   ·rw[Xp hv];exact wpS_pure ⟨rfl,u,v,rfl,a1,a2,a3, .inl hv⟩
   ·rw[Xm hv];obtain⟨g1,g2⟩:=hg (h+v) (by lia);refine wpS_bind (sU C hk h1 g2 g1 ?_);dsimp only;cases e2:mD lt l key (g (h+v))with
    |false=>
     simp only[Bool.not_false,if_true];exact wpS_pure ⟨rfl,u,v,rfl,a1,a2,a3, .inr ⟨by lia,e2⟩⟩
    |true=>
     simp only[Bool.not_true,Bool.false_eq_true,if_false];exact wpS_pure ⟨rfl,v,2*v+1,rfl,by lia,by lia,e2,by lia⟩
  ·rintro c aN ⟨rfl,u,v,rfl,a1,a2,a3,a4⟩;exact⟨rfl,u,v,rfl,a1,a2,a3, .inl Xu⟩
  ·rintro c aN ⟨rfl,u,v,rfl,a1,a2,a3,a4⟩;dsimp only;refine Eq.mp (by kernel_rfl) (bin (h+u+1) (h+min v (n-h)) (by lia) (by lia) (fun i hi=>dn i (h+u) (by lia) a2 a3) fun i hi pC=>?_);rcases a4 with a4|⟨a4,a5⟩
   ·lia
   ·exact up (h+v) i Xu pC a5
 |false=>
  simp only[Bool.false_eq_true,if_false];refine wpS_bind (wpS_mono (wpS_forRange (I:=fun x c aN=>aN=st∧∃u v,c=(none,u,v)∧u<v∧u≤h∧mD lt l key (g (h-u))=false∧x<v) (Q:=fun c aN=>aN=st∧∃u v,c=(none,u,v)∧u<v∧u≤h∧mD lt l key (g (h-u))=false∧(h+1≤v∨(v≤h∧mD lt l key (g (h-v))=true))) ?_ ?_ ⟨rfl,0,1,rfl,by lia,by lia,e,by lia⟩) ?_)
  ·rintro x c aN _ hx ⟨rfl,u,v,rfl,a1,a2,a3,a4⟩;dsimp only;by_cases hv:v≥h+1
   ·rw[Xp hv];exact wpS_pure ⟨rfl,u,v,rfl,a1,a2,a3, .inl hv⟩
   ·rw[Xm hv];obtain⟨g1,g2⟩:=hg (h-v) (by lia);refine wpS_bind (sU C hk h1 g2 g1 ?_);dsimp only;cases e2:mD lt l key (g (h-v))with
    |true=>
     simp only[if_true];exact wpS_pure ⟨rfl,u,v,rfl,a1,a2,a3, .inr ⟨by lia,e2⟩⟩
    |false=>
     simp only[Bool.false_eq_true,if_false];exact wpS_pure ⟨rfl,v,2*v+1,rfl,by lia,by lia,e2,by lia⟩
  ·rintro c aN ⟨rfl,u,v,rfl,a1,a2,a3,a4⟩;exact⟨rfl,u,v,rfl,a1,a2,a3, .inl Xu⟩
  ·rintro c aN ⟨rfl,u,v,rfl,a1,a2,a3,a4⟩;dsimp only;refine Eq.mp (by kernel_rfl) (bin (h+1-min v (h+1)) (h-u) (by lia) (by lia) (fun i hi=>?_) fun i hi pC=>up (h-u) i Xu pC a3);rcases a4 with a4|⟨a4,a5⟩
   ·lia
   ·exact dn i (h-v) (by lia) (by lia) a5
end
def setG(g:Nat):StateT SortSt Sem Unit:=modify fun st=>SortSt.mk' (kindOf st) (arrOf st) (pendingOf st) g (failedOf st)
def D5(a b out:Array Keyed)(i j:Nat):Array Keyed:=out++a.extract i a.size++b.extract j b.size
def J8(a b out:Array Keyed)(i j:Nat):Array Keyed:=out++b.extract j b.size++a.extract i a.size
abbrev S1:=Option (Array Keyed)×Array Keyed×Nat×Nat×Nat×Nat
abbrev S2:=Option (Array Keyed)×Array Keyed×Nat×Nat×Nat×Nat×Nat
abbrev S3:=Option (Array Keyed)×Array Keyed×Nat×Nat×Nat
def lo1(a b:Array Keyed)(mg:Nat)(c:S1):StateT SortSt Sem (ForInStep S1):=do
 let y←elem' b c.2.2.2.1
 let x←elem' a c.2.2.1
 let z←lt' y x
 match z with
 |some bw=>
  if bw=true then do
   let y←elem' b c.2.2.2.1
   if (c.2.2.2.1+1==b.size)=true then pure (.done (some (D5 a b (c.2.1.push y) c.2.2.1 (c.2.2.2.1+1)),c.2.1.push y,c.2.2.1,c.2.2.2.1+1,0,c.2.2.2.2.2+1))
   else if c.2.2.2.2.2+1≥mg then pure (.done (none,c.2.1.push y,c.2.2.1,c.2.2.2.1+1,0,c.2.2.2.2.2+1))
   else pure (.yield (none,c.2.1.push y,c.2.2.1,c.2.2.2.1+1,0,c.2.2.2.2.2+1))
  else do
   let x←elem' a c.2.2.1
   if (c.2.2.1+1+1==a.size)=true then pure (.done (some (J8 a b (c.2.1.push x) (c.2.2.1+1) c.2.2.2.1),c.2.1.push x,c.2.2.1+1,c.2.2.2.1,c.2.2.2.2.1+1,0))
   else if c.2.2.2.2.1+1≥mg then pure (.done (none,c.2.1.push x,c.2.2.1+1,c.2.2.2.1,c.2.2.2.2.1+1,0))
   else pure (.yield (none,c.2.1.push x,c.2.2.1+1,c.2.2.2.1,c.2.2.2.2.1+1,0))
 | _=>pure (.done (some (D5 a b c.2.1 c.2.2.1 c.2.2.2.1),c.2.1,c.2.2.1,c.2.2.2.1,c.2.2.2.2.1,c.2.2.2.2.2))
def Nr(a b o:Array Keyed)(i j mg k l:Nat):StateT SortSt Sem (ForInStep S2):=do
 let x←elem' a i
 if (i+1+1==a.size)=true then pure (.done (some (J8 a b (o.push x) (i+1) j),o.push x,i+1,j,mg,k,l))
 else if (decide (k<7)&&decide (l<7))=true then pure (.done (none,o.push x,i+1,j,mg,k,l))
 else pure (.yield (none,o.push x,i+1,j,mg,k,l))
def Py(a b o:Array Keyed)(i j mg k bc:Nat):StateT SortSt Sem (ForInStep S2):=do
 let x←elem' a i
 let z←xA true x b j (b.size-j) 0
 match z with
 |some l=>if l>0 then(if (j+l==b.size)=true then pure (.done (some (D5 a b (o++b.extract j (j+l)) i (j+l)),o++b.extract j (j+l),i,j+l,mg,k,l))else Nr a b (o++b.extract j (j+l)) i (j+l) mg k l)else Nr a b o i j mg k l
 | _=>pure (.done (some (D5 a b o i j),o,i,j,mg,k,bc))
def Nt(a b o:Array Keyed)(i j mg k bc:Nat):StateT SortSt Sem (ForInStep S2):=do
 let y←elem' b j
 if (j+1==b.size)=true then pure (.done (some (D5 a b (o.push y) i (j+1)),o.push y,i,j+1,mg,k,bc))else Py a b (o.push y) i (j+1) mg k bc
def Nu(a b o:Array Keyed)(i j mg ac bc:Nat):StateT SortSt Sem (ForInStep S2):=do
 setG mg
 let y←elem' b j
 let z←xA false y a i (a.size-i) 0
 match z with
 |some k=>if k>0 then(if (i+k+1==a.size)=true then pure (.done (some (J8 a b (o++a.extract i (i+k)) (i+k) j),o++a.extract i (i+k),i+k,j,mg,k,bc))else if (i+k==a.size)=true then pure (.done (some (D5 a b (o++a.extract i (i+k)) (i+k) j),o++a.extract i (i+k),i+k,j,mg,k,bc))else Nt a b (o++a.extract i (i+k)) (i+k) j mg k bc)else Nt a b o i j mg k bc
 | _=>pure (.done (some (D5 a b o i j),o,i,j,mg,ac,bc))
def Pz(a b:Array Keyed)(c:S2):StateT SortSt Sem (ForInStep S2):=if c.2.2.2.2.1>1 then Nu a b c.2.1 c.2.2.1 c.2.2.2.1 (c.2.2.2.2.1-1) c.2.2.2.2.2.1 c.2.2.2.2.2.2 else Nu a b c.2.1 c.2.2.1 c.2.2.2.1 c.2.2.2.2.1 c.2.2.2.2.2.1 c.2.2.2.2.2.2
def PB(a b:Array Keyed)(c:S3):StateT SortSt Sem (ForInStep S3):=do
 let t←forIn [0:a.size+b.size] ((none,c.2.1,c.2.2.1,c.2.2.2.1,0,0):S1) (fun _=>lo1 a b c.2.2.2.2)
 match t.1 with
 |some r=>pure (.done (some r,t.2.1,t.2.2.1,t.2.2.2.1,c.2.2.2.2))
 |none=>do
  liftM (rule "list.sort.gallop")
  let u←forIn [0:a.size+b.size] ((none,t.2.1,t.2.2.1,t.2.2.2.1,c.2.2.2.2+1,t.2.2.2.2.1,t.2.2.2.2.2):S2) (fun _=>Pz a b)
  match u.1 with
  |some r=>pure (.done (some r,u.2.1,u.2.2.1,u.2.2.2.1,u.2.2.2.2.1))
  |none=>do
   setG (u.2.2.2.2.1+1)
   pure (.yield (none,u.2.1,u.2.2.1,u.2.2.2.1,u.2.2.2.2.1+1))
theorem E8(a b:Array Keyed):Iw a b=(do
 liftM (rule "list.sort.merge-lo")
 let y←elem' b 0
 if (1==b.size)=true then pure (D5 a b #[y] 0 1)
 else if (0+1==a.size)=true then pure (J8 a b #[y] 0 1)
 else do
  let g←get
  let t←forIn [0:a.size+b.size] ((none,#[y],0,1,gallopOf g):S3) (fun _=>PB a b)
  match t.1 with
  |some r=>pure r
  |none=>unsupported "internal:list.sort.merge-bound"):=by kernel_rfl
def D6(a b o:Array Keyed)(i j:Nat):Array Keyed:=a.extract 0 i++b.extract 0 j++o.reverse
def J9(a b o:Array Keyed)(i j:Nat):Array Keyed:=b.extract 0 j++a.extract 0 i++o.reverse
abbrev T1:=Option (Array Keyed)×Nat×Nat×Array Keyed×Nat×Nat
abbrev T2:=Option (Array Keyed)×Nat×Nat×Array Keyed×Nat×Nat×Nat
abbrev T3:=Option (Array Keyed)×Nat×Nat×Array Keyed×Nat
def PD(a b:Array Keyed)(mg:Nat)(c:T1):StateT SortSt Sem (ForInStep T1):=do
 let y←elem' b (c.2.2.1-1)
 let x←elem' a (c.2.1-1)
 let z←lt' y x
 match z with
 |some aw=>
  if aw=true then do
   let x←elem' a (c.2.1-1)
   if (c.2.1-1==0)=true then pure (.done (some (D6 a b (c.2.2.2.1.push x) (c.2.1-1) c.2.2.1),c.2.1-1,c.2.2.1,c.2.2.2.1.push x,c.2.2.2.2.1+1,0))
   else if c.2.2.2.2.1+1≥mg then pure (.done (none,c.2.1-1,c.2.2.1,c.2.2.2.1.push x,c.2.2.2.2.1+1,0))
   else pure (.yield (none,c.2.1-1,c.2.2.1,c.2.2.2.1.push x,c.2.2.2.2.1+1,0))
  else do
   let y←elem' b (c.2.2.1-1)
   if (c.2.2.1-1==1)=true then pure (.done (some (J9 a b (c.2.2.2.1.push y) c.2.1 (c.2.2.1-1)),c.2.1,c.2.2.1-1,c.2.2.2.1.push y,0,c.2.2.2.2.2+1))
   else if c.2.2.2.2.2+1≥mg then pure (.done (none,c.2.1,c.2.2.1-1,c.2.2.2.1.push y,0,c.2.2.2.2.2+1))
   else pure (.yield (none,c.2.1,c.2.2.1-1,c.2.2.2.1.push y,0,c.2.2.2.2.2+1))
 | _=>pure (.done (some (D6 a b c.2.2.2.1 c.2.1 c.2.2.1),c.2.1,c.2.2.1,c.2.2.2.1,c.2.2.2.2.1,c.2.2.2.2.2))
def Nv(a b o:Array Keyed)(i j mg k l:Nat):StateT SortSt Sem (ForInStep T2):=do
 let x←elem' a (i-1)
 if (i-1==0)=true then pure (.done (some (D6 a b (o.push x) (i-1) j),i-1,j,o.push x,mg,k,l))
 else if (decide (k<7)&&decide (l<7))=true then pure (.done (none,i-1,j,o.push x,mg,k,l))
 else pure (.yield (none,i-1,j,o.push x,mg,k,l))
def PF(a b o:Array Keyed)(i j mg k bc:Nat):StateT SortSt Sem (ForInStep T2):=do
 let x←elem' a (i-1)
 let z←xA true x b 0 j (j-1)
 match z with
 |some t=>if j-t>0 then(if (t==1)=true then pure (.done (some (J9 a b (o++(b.extract t j).reverse) i t),i,t,o++(b.extract t j).reverse,mg,k,j-t))else if (t==0)=true then pure (.done (some (D6 a b (o++(b.extract t j).reverse) i t),i,t,o++(b.extract t j).reverse,mg,k,j-t))else Nv a b (o++(b.extract t j).reverse) i t mg k (j-t))else Nv a b o i j mg k (j-t)
 | _=>pure (.done (some (D6 a b o i j),i,j,o,mg,k,bc))
def Nw(a b o:Array Keyed)(i j mg k bc:Nat):StateT SortSt Sem (ForInStep T2):=do
 let y←elem' b (j-1)
 if (j-1==1)=true then pure (.done (some (J9 a b (o.push y) i (j-1)),i,j-1,o.push y,mg,k,bc))else PF a b (o.push y) i (j-1) mg k bc
def D7(a b o:Array Keyed)(i j mg ac bc:Nat):StateT SortSt Sem (ForInStep T2):=do
 setG mg
 let y←elem' b (j-1)
 let z←xA false y a 0 i (i-1)
 match z with
 |some t=>if i-t>0 then(if (t==0)=true then pure (.done (some (D6 a b (o++(a.extract t i).reverse) t j),t,j,o++(a.extract t i).reverse,mg,i-t,bc))else Nw a b (o++(a.extract t i).reverse) t j mg (i-t) bc)else Nw a b o i j mg (i-t) bc
 | _=>pure (.done (some (D6 a b o i j),i,j,o,mg,ac,bc))
def PH(a b:Array Keyed)(c:T2):StateT SortSt Sem (ForInStep T2):=if c.2.2.2.2.1>1 then D7 a b c.2.2.2.1 c.2.1 c.2.2.1 (c.2.2.2.2.1-1) c.2.2.2.2.2.1 c.2.2.2.2.2.2 else D7 a b c.2.2.2.1 c.2.1 c.2.2.1 c.2.2.2.2.1 c.2.2.2.2.2.1 c.2.2.2.2.2.2
def PK(a b:Array Keyed)(c:T3):StateT SortSt Sem (ForInStep T3):=do
 let t←forIn [0:a.size+b.size] ((none,c.2.1,c.2.2.1,c.2.2.2.1,0,0):T1) (fun _=>PD a b c.2.2.2.2)
 match t.1 with
 |some r=>pure (.done (some r,t.2.1,t.2.2.1,t.2.2.2.1,c.2.2.2.2))
 |none=>do
  liftM (rule "list.sort.gallop")
  let u←forIn [0:a.size+b.size] ((none,t.2.1,t.2.2.1,t.2.2.2.1,c.2.2.2.2+1,t.2.2.2.2.1,t.2.2.2.2.2):T2) (fun _=>PH a b)
  match u.1 with
  |some r=>pure (.done (some r,u.2.1,u.2.2.1,u.2.2.2.1,u.2.2.2.2.1))
  |none=>do
   setG (u.2.2.2.2.1+1)
   pure (.yield (none,u.2.1,u.2.2.1,u.2.2.2.1,u.2.2.2.2.1+1))
theorem E9(a b:Array Keyed):Iy a b=(do
 liftM (rule "list.sort.merge-hi")
 let x←elem' a (a.size-1)
 if (a.size-1==0)=true then pure (D6 a b #[x] (a.size-1) b.size)
 else if (b.size==1)=true then pure (J9 a b #[x] (a.size-1) b.size)
 else do
  let g←get
  let t←forIn [0:a.size+b.size] ((none,a.size-1,b.size,#[x],gallopOf g):T3) (fun _=>PK a b)
  match t.1 with
  |some r=>pure r
  |none=>unsupported "internal:list.sort.merge-bound"):=by kernel_rfl
theorem mS{α:Type}{l:List α}{i:Nat}{x:α}:x∈l.drop i↔∃t:Nat,l[i+t]?=some x:=by
 rw[List.mem_iff_getElem?];simp only[List.getElem?_drop]
theorem tQ{α:Type}{l:List α}{i k:Nat}{x:α}:x∈(l.drop i).take k↔∃t:Nat,t<k∧l[i+t]?=some x:=by
 rw[List.mem_iff_getElem?];constructor
 ·rintro⟨t,ht⟩;rw[List.getElem?_take]at ht;split at ht
  ·rw[List.getElem?_drop]at ht;exact⟨t,by assumption,ht⟩
  ·cases ht
 ·rintro⟨t,h1,h2⟩;exact⟨t,by rw[List.getElem?_take,Xp h1,List.getElem?_drop];exact h2⟩
theorem pZ{α:Type}{l:List α}{i:Nat}{x:α}(h:l[i]?=some x):l.drop i=x::l.drop (i+1):=by
 obtain⟨h1,h2⟩:=Xc h;rw[List.drop_eq_getElem_cons h1,h2]
theorem p4{α:Type}(l:List α)(i k:Nat):l.drop i=(l.drop i).take k++l.drop (i+k):=by
 rw[←List.drop_drop,List.take_append_drop]
abbrev Pw(lt:Keyed→Keyed→Bool)(l:List Keyed):Prop:=l.Pairwise fun x y=>lt x y=true
theorem Pw.at{lt:Keyed→Keyed→Bool}{l:List Keyed}(h:Pw lt l){i j:Nat}{x y:Keyed}(uk:i<j)(hx:l[i]?=some x)(hy:l[j]?=some y):lt x y=true:=by
 obtain⟨h1,e1⟩:=Xc hx;obtain⟨h2,e2⟩:=Xc hy;have:=List.pairwise_iff_getElem.mp h i j h1 h2 uk;rw[e1,e2]at this;exact this
section
variable{X:List Keyed}{lt:Keyed→Keyed→Bool}{P Q:List Keyed}
structure MC(X:List Keyed)(lt:Keyed→Keyed→Bool)(P Q:List Keyed):Prop where
 sa:Pw lt P
 sb:Pw lt Q
 ia:∀x∈P,x∈X
 ib:∀x∈Q,x∈X
 ne:∀x∈P,∀y∈Q,x≠y
 fst:∀x∈P,∀y,Q[0]?=some y→lt y x=true
 lst:∀y∈Q,∀x,P[P.length-1]?=some x→lt y x=true
structure ML(lt:Keyed→Keyed→Bool)(P Q O:List Keyed)(i j:Nat):Prop where
 hi:i≤P.length
 hj:j≤Q.length
 sV:Pw lt O
 low:∀x∈O,∀y,y∈P.drop i∨y∈Q.drop j→lt x y=true
 E_:(O++(P.drop i++Q.drop j)).Perm (P++Q)
def MG(lt:Keyed→Keyed→Bool)(P Q R:List Keyed):Prop:=R.Perm (P++Q)∧Pw lt R
theorem ML.a{O:List Keyed}{i j k:Nat}(M:MC X lt P Q)(m:ML lt P Q O i j)(hk:i+k≤P.length)(h:∀x∈(P.drop i).take k,∀y∈Q.drop j,lt x y=true):ML lt P Q (O++(P.drop i).take k) (i+k) j:=by
 have sp:=p4 P i k;have sd:Pw lt (P.drop i):=M.sa.sublist (List.drop_sublist _ _);rw[sp]at sd;obtain⟨s1,s2,s3⟩:=List.pairwise_append.mp sd;refine⟨hk,m.hj,List.pairwise_append.mpr ⟨m.sV,s1,fun x hx y hy=>m.low x hx y (.inl (List.mem_of_mem_take hy))⟩,fun x hx y hy=>?_,?_⟩
 ·rcases List.mem_append.mp hx with hx|hx
  ·exact m.low x hx y (hy.imp (fun z=>by rw[sp];exact List.mem_append_right _ z) id)
  ·rcases hy with hy|hy
   ·exact s3 x hx y hy
   ·exact h x hx y hy
 ·have:=m.E_;rw[sp]at this;rw[List.append_assoc,←List.append_assoc ((P.drop i).take k)];exact this
theorem ML.b{O:List Keyed}{i j k:Nat}(M:MC X lt P Q)(m:ML lt P Q O i j)(hk:j+k≤Q.length)(h:∀y∈(Q.drop j).take k,∀x∈P.drop i,lt y x=true):ML lt P Q (O++(Q.drop j).take k) i (j+k):=by
 have sp:=p4 Q j k;have sd:Pw lt (Q.drop j):=M.sb.sublist (List.drop_sublist _ _);rw[sp]at sd;obtain⟨s1,s2,s3⟩:=List.pairwise_append.mp sd;refine⟨m.hi,hk,List.pairwise_append.mpr ⟨m.sV,s1,fun x hx y hy=>m.low x hx y (.inr (List.mem_of_mem_take hy))⟩,fun x hx y hy=>?_,?_⟩
 ·rcases List.mem_append.mp hx with hx|hx
  ·exact m.low x hx y (hy.imp id (fun z=>by rw[sp];exact List.mem_append_right _ z))
  ·rcases hy with hy|hy
   ·exact h x hx y hy
   ·exact s3 x hx y hy
 ·have:=m.E_;rw[sp]at this;refine List.Perm.trans ?_ this;rw[List.append_assoc];refine List.Perm.append_left O ?_;rw[←List.append_assoc,←List.append_assoc];exact List.Perm.append_right _ List.perm_append_comm
theorem ML.dn{O:List Keyed}{i j:Nat}(M:MC X lt P Q)(m:ML lt P Q O i j)(h:i=P.length∨j=Q.length):MG lt P Q (O++P.drop i++Q.drop j):=by
 refine⟨by rw[List.append_assoc];exact m.E_,?_⟩;have sa:Pw lt (P.drop i):=M.sa.sublist (List.drop_sublist _ _);have sb:Pw lt (Q.drop j):=M.sb.sublist (List.drop_sublist _ _);rw[List.append_assoc];refine List.pairwise_append.mpr ⟨m.sV,List.pairwise_append.mpr ⟨sa,sb,fun x hx y hy=>?_⟩,fun x hx y hy=>m.low x hx y (List.mem_append.mp hy)⟩;rcases h with h|h
 ·rw[h,List.drop_length]at hx;cases hx
 ·rw[h,List.drop_length]at hy;cases hy
theorem ML.ls{O:List Keyed}{i j:Nat}(M:MC X lt P Q)(m:ML lt P Q O i j)(h:i+1=P.length):MG lt P Q (O++Q.drop j++P.drop i):=by
 have sa:Pw lt (P.drop i):=M.sa.sublist (List.drop_sublist _ _);have sb:Pw lt (Q.drop j):=M.sb.sublist (List.drop_sublist _ _);rw[List.append_assoc];refine⟨(List.Perm.append_left O List.perm_append_comm).trans m.E_,List.pairwise_append.mpr ⟨m.sV,List.pairwise_append.mpr ⟨sb,sa,fun y hy x hx=>?_⟩,fun x hx y hy=>m.low x hx y (List.mem_append.mp hy).symm⟩⟩;obtain⟨t,ht⟩:=mS.mp hx;have hl:=(Xc ht).1;exact M.lst y (List.mem_of_mem_drop hy) x (by rw[←ht];congr 1;lia)
end
def Eg(st aN:SortSt):Prop:=kindOf aN=kindOf st∧arrOf aN=arrOf st∧pendingOf aN=pendingOf st∧failedOf aN=failedOf st
theorem Eg.refl(st:SortSt):Eg st st:=⟨rfl,rfl,rfl,rfl⟩
theorem Eg.trans{a b c:SortSt}(h:Eg a b)(k:Eg b c):Eg a c:=⟨k.1.trans h.1,k.2.1.trans h.2.1,k.2.2.1.trans h.2.2.1,k.2.2.2.trans h.2.2.2⟩
section
variable{prog:Program}{w:World}{A:Around}{E:Value→Shared→Prop}{s:Shared}{X:List Keyed}{κ:SortKind}{lt:Keyed→Keyed→Bool}(C:CW prog w A s X κ lt){a b:Array Keyed}(M:MC X lt a.toList b.toList)
theorem sW{st:SortSt}{g:Nat}{Q:Unit→SortSt→Prop}(h:∀aN,Eg st aN→Q () aN):wpS Xx A E s (setG g) Q st:=wpS_modify (h _ ⟨rfl,rfl,rfl,rfl⟩)
theorem xB(o:Array Keyed)(i j:Nat):(D5 a b o i j).toList=o.toList++a.toList.drop i++b.toList.drop j:=by
 unfold D5;simp[Array.toList_extract,List.extract_eq_take_drop];rw[List.take_of_length_le Xy,List.take_of_length_le Xy]
theorem YB(o:Array Keyed)(i j:Nat):(J8 a b o i j).toList=o.toList++b.toList.drop j++a.toList.drop i:=by
 unfold J8;simp[Array.toList_extract,List.extract_eq_take_drop];rw[List.take_of_length_le Xy,List.take_of_length_le Xy]
theorem GB(o:Array Keyed)(c:Array Keyed)(i k:Nat):(o++c.extract i (i+k)).toList=o.toList++(c.toList.drop i).take k:=by
 simp[Array.toList_extract,List.extract_eq_take_drop]
theorem D8{l:List Keyed}{i:Nat}{x:Keyed}(h:l[i]?=some x):(l.drop i).take 1=[x]:=by rw[pZ h];simp
def XR(lt:Keyed→Keyed→Bool)(a b:Array Keyed)(o:Array Keyed)(i j m:Nat):Prop:=ML lt a.toList b.toList o.toList i j∧i+1<a.size∧j<b.size∧m≤i+j
def P2(lt:Keyed→Keyed→Bool)(a b:Array Keyed)(m:Nat)(st:SortSt)(r:ForInStep S2)(aN:SortSt):Prop:=Eg st aN∧match r with
 | .done c=>(∃x,c.1=some x∧MG lt a.toList b.toList x.toList)∨(c.1=none∧XR lt a b c.2.1 c.2.2.1 c.2.2.2.1 m)
 | .yield c=>c.1=none∧XR lt a b c.2.1 c.2.2.1 c.2.2.2.1 m
include C M
theorem CY{st:SortSt}{o:Array Keyed}{i j mg k l m:Nat}(ml:ML lt a.toList b.toList o.toList i j)(hi:i+1<a.size)(hj:j<b.size)(hm:m≤i+j+1)(h:∀x,a.toList[i]?=some x→∀y∈b.toList.drop j,lt x y=true):wpS Xx A E s (Nr a b o i j mg k l) (P2 lt a b m st) st:=by
 unfold Nr;have ex:a[i]?=some a[i]:=XE;have gX:a.toList[i]?=some a[i]:=by rw[Array.getElem?_toList];exact ex
 refine wpS_bind (eQ ex ?_);have m2:ML lt a.toList b.toList (o.push a[i]).toList (i+1) j:=by
  have:=ml.a M (k:=1) (by simp;lia) (fun x hx y hy=>by
   rw[D8 gX]at hx;have:x=a[i]:=by simpa using hx
   rw[this];exact h _ gX y hy)
  rw[D8 gX]at this;rw[Array.toList_push];exact this
 by_cases e:(i+1+1==a.size)=true
 ·rw[Xp e];refine wpS_pure ⟨.refl _, .inl ⟨_,rfl,?_⟩⟩;rw[YB];exact m2.ls M (by have:=beq_iff_eq.mp e;simp;lia)
 ·rw[Xm e];have e:i+1+1≠a.size:=fun z=>e (beq_iff_eq.mpr z)
  split
  ·exact wpS_pure ⟨.refl _, .inr ⟨rfl,m2,by show i+1+1<a.size;lia,hj,by show m≤i+1+j;lia⟩⟩
  ·exact wpS_pure ⟨.refl _,rfl,m2,by show i+1+1<a.size;lia,hj,by show m≤i+1+j;lia⟩
theorem IA{st:SortSt}{o:Array Keyed}{i j mg k bc m:Nat}(hk:kindOf st=κ)(ml:ML lt a.toList b.toList o.toList i j)(hi:i+1<a.size)(hj:j<b.size)(hm:m≤i+j+1):wpS Xx A E s (Py a b o i j mg k bc) (P2 lt a b m st) st:=by
 unfold Py;have ex:a[i]?=some a[i]:=XE;have gX:a.toList[i]?=some a[i]:=by rw[Array.getElem?_toList];exact ex
 have hx:a[i]∈a.toList:=Xj gX;refine wpS_bind (eQ ex ?_);generalize a[i]=x at ex gX hx;have gb:∀t,t<b.size-j→b[j+t]?=some (b.getD (j+t) (.none, .none)):=fun t ht=>by simp[show j+t<b.size by lia]
 have sr:∀t,t<b.size-j→b.toList[j+t]?=some (b.getD (j+t) (.none, .none)):=fun t ht=>by rw[Array.getElem?_toList];exact gb t ht
 refine wpS_bind (qZ C (fun t=>b.getD (j+t) (.none, .none)) hk (M.ia _ hx) (fun t ht=>⟨gb t ht,M.ib _ (Xj (sr t ht))⟩) (fun t u h1 h2=>M.sb.at (i:=j+t) (j:=j+u) (by lia) (sr t Xu) (sr u h2)) (by lia) fun l hl h1 h2=>?_);dsimp only;have low:∀y∈(b.toList.drop j).take l,∀z∈a.toList.drop i,lt y z=true:=fun y hy z hz=>by
  obtain⟨t,ht,et⟩:=tQ.mp hy;rw[sr t Xu]at et;cases et;have hb:=h1 t ht;simp only[mD,if_true]at hb;rw[pZ gX]at hz;rcases List.mem_cons.mp hz with rfl|hz
  ·exact hb
  ·obtain⟨u,hu⟩:=mS.mp hz;exact C.tr _ (M.ib _ (Xj (sr t Xu))) _ (M.ia _ hx) _ (M.ia _ (Xj hu)) hb (M.sa.at Xu gX hu)
 have X6:∀y∈b.toList.drop (j+l),lt x y=true:=fun y hy=>by
  obtain⟨t,ht⟩:=mS.mp hy;have iM:=(Xc ht).1;have iM:j+l+t<b.size:=by simpa using iM
  have hb:=h2 (l+t) (by lia) (by lia);have e:b.toList[j+(l+t)]?=some y:=by rw[←Nat.add_assoc];exact ht
  rw[sr (l+t) (by lia)]at e;have e:=Xs e;simp only[mD,if_true]at hb;rw[e]at hb;exact C.no (M.ib _ (Xj ht)) (M.ia _ hx) (fun z=>M.ne _ hx _ (Xj ht) z.symm) hb
 have m2:ML lt a.toList b.toList (o++b.extract j (j+l)).toList i (j+l):=by
  rw[GB];exact ml.b M (by simp;lia) low
 by_cases IB:l>0
 ·rw[Xp IB];by_cases e:(j+l==b.size)=true
  ·rw[Xp e];refine wpS_pure ⟨.refl _, .inl ⟨_,rfl,?_⟩⟩;rw[xB];exact m2.dn M (.inr (by have:=beq_iff_eq.mp e;simpa using this))
  ·rw[Xm e];have e:j+l≠b.size:=fun z=>e (beq_iff_eq.mpr z)
   exact CY C M m2 hi Xu (by lia) fun y hy=>by rw[gX]at hy;cases hy;exact X6
 ·rw[Xm IB];have:l=0:=by lia
  subst this;exact CY C M ml hi hj hm fun y hy=>by rw[gX]at hy;cases hy;exact X6
theorem CZ{st:SortSt}{o:Array Keyed}{i j mg k bc m:Nat}(hk:kindOf st=κ)(ml:ML lt a.toList b.toList o.toList i j)(hi:i+1<a.size)(hj:j<b.size)(hm:m≤i+j+2)(h:∀y,b.toList[j]?=some y→∀x∈a.toList.drop i,lt y x=true):wpS Xx A E s (Nt a b o i j mg k bc) (P2 lt a b m st) st:=by
 unfold Nt;have ex:b[j]?=some b[j]:=XE;have gX:b.toList[j]?=some b[j]:=by rw[Array.getElem?_toList];exact ex
 refine wpS_bind (eQ ex ?_);have m2:ML lt a.toList b.toList (o.push b[j]).toList i (j+1):=by
  have:=ml.b M (k:=1) (by simp;lia) (fun x hx y hy=>by
   rw[D8 gX]at hx;have:x=b[j]:=by simpa using hx
   rw[this];exact h _ gX y hy)
  rw[D8 gX]at this;rw[Array.toList_push];exact this
 by_cases e:(j+1==b.size)=true
 ·rw[Xp e];refine wpS_pure ⟨.refl _, .inl ⟨_,rfl,?_⟩⟩;rw[xB];exact m2.dn M (.inr (by have:=beq_iff_eq.mp e;simpa using this))
 ·rw[Xm e];have e:j+1≠b.size:=fun z=>e (beq_iff_eq.mpr z)
  exact IA C M hk m2 hi Xu (by lia)
theorem C0{st:SortSt}{o:Array Keyed}{i j mg ac bc m:Nat}(hk:kindOf st=κ)(h:XR lt a b o i j m):wpS Xx A E s (Nu a b o i j mg ac bc) (P2 lt a b (m+2) st) st:=by
 obtain⟨ml,hi,hj,hm⟩:=h;unfold Nu;refine wpS_bind (sW fun XH eg=>?_);have GC:kindOf XH=κ:=eg.1.trans hk;have fin:∀{m:Nat}{p:StateT SortSt Sem (ForInStep S2)},wpS Xx A E s p (P2 lt a b m XH) XH→wpS Xx A E s p (P2 lt a b m st) XH:=fun h=>wpS_mono h fun r aN z=>⟨eg.trans z.1,z.2⟩
 refine fin ?_;have ex:b[j]?=some b[j]:=XE;have gX:b.toList[j]?=some b[j]:=by rw[Array.getElem?_toList];exact ex
 have hx:b[j]∈b.toList:=Xj gX;refine wpS_bind (eQ ex ?_);generalize b[j]=y at ex gX hx;have gb:∀t,t<a.size-i→a[i+t]?=some (a.getD (i+t) (.none, .none)):=fun t ht=>by simp[show i+t<a.size by lia]
 have sr:∀t,t<a.size-i→a.toList[i+t]?=some (a.getD (i+t) (.none, .none)):=fun t ht=>by rw[Array.getElem?_toList];exact gb t ht
 refine wpS_bind (qZ C (fun t=>a.getD (i+t) (.none, .none)) GC (M.ib _ hx) (fun t ht=>⟨gb t ht,M.ia _ (Xj (sr t ht))⟩) (fun t u h1 h2=>M.sa.at (i:=i+t) (j:=i+u) (by lia) (sr t Xu) (sr u h2)) (by lia) fun k hl h1 h2=>?_);dsimp only;have low:∀x∈(a.toList.drop i).take k,∀z∈b.toList.drop j,lt x z=true:=fun x um z hz=>by
  obtain⟨t,ht,et⟩:=tQ.mp um;rw[sr t Xu]at et;cases et;have jH:=Xj (sr t Xu);have hb:=h1 t ht;simp only[mD,Bool.false_eq_true,if_false,Bool.not_eq_true']at hb;have hb:=C.no (M.ib _ hx) (M.ia _ jH) (fun z=>M.ne _ jH _ hx z.symm) hb;rw[pZ gX]at hz;rcases List.mem_cons.mp hz with rfl|hz
  ·exact hb
  ·obtain⟨u,hu⟩:=mS.mp hz;exact C.tr _ (M.ia _ jH) _ (M.ib _ hx) _ (M.ib _ (Xj hu)) hb (M.sb.at Xu gX hu)
 have X6:∀x∈a.toList.drop (i+k),lt y x=true:=fun x um=>by
  obtain⟨t,ht⟩:=mS.mp um;have iM:=(Xc ht).1;have iM:i+k+t<a.size:=by simpa using iM
  have hb:=h2 (k+t) (by lia) (by lia);have e:a.toList[i+(k+t)]?=some x:=by rw[←Nat.add_assoc];exact ht
  rw[sr (k+t) (by lia)]at e;have e:=Xs e;simp only[mD,Bool.false_eq_true,if_false,Bool.not_eq_false']at hb;rw[e]at hb;exact hb
 have m2:ML lt a.toList b.toList (o++a.extract i (i+k)).toList (i+k) j:=by
  rw[GB];exact ml.a M (by simp;lia) low
 by_cases X9:k>0
 ·rw[Xp X9];by_cases e:(i+k+1==a.size)=true
  ·rw[Xp e];refine wpS_pure ⟨.refl _, .inl ⟨_,rfl,?_⟩⟩;rw[YB];exact m2.ls M (by have:=beq_iff_eq.mp e;simpa using this)
  ·rw[Xm e];have e:i+k+1≠a.size:=fun z=>e (beq_iff_eq.mpr z)
   by_cases e2:(i+k==a.size)=true
   ·rw[Xp e2];refine wpS_pure ⟨.refl _, .inl ⟨_,rfl,?_⟩⟩;rw[xB];exact m2.dn M (.inl (by have:=beq_iff_eq.mp e2;simpa using this))
   ·rw[Xm e2];have e2:i+k≠a.size:=fun z=>e2 (beq_iff_eq.mpr z)
    exact CZ C M GC m2 Xu hj Xu fun z hz=>by rw[gX]at hz;cases hz;exact X6
 ·rw[Xm X9];have:k=0:=by lia
  subst this;exact CZ C M GC ml hi hj Xu fun z hz=>by rw[gX]at hz;cases hz;exact X6
theorem IC{st:SortSt}{c:S2}{m:Nat}(hk:kindOf st=κ)(h:XR lt a b c.2.1 c.2.2.1 c.2.2.2.1 m):wpS Xx A E s (Pz a b c) (P2 lt a b (m+2) st) st:=by
 unfold Pz;split
 ·exact C0 C M hk h
 ·exact C0 C M hk h
theorem ID{st:SortSt}{c:S1}{mg m:Nat}(hk:kindOf st=κ)(h:XR lt a b c.2.1 c.2.2.1 c.2.2.2.1 m):wpS Xx A E s (lo1 a b mg c) (fun r aN=>aN=st∧match r with
  | .done c=>(∃x,c.1=some x∧MG lt a.toList b.toList x.toList)∨(c.1=none∧XR lt a b c.2.1 c.2.2.1 c.2.2.2.1 (m+1))
  | .yield c=>c.1=none∧XR lt a b c.2.1 c.2.2.1 c.2.2.2.1 (m+1)) st:=by
 obtain⟨r,o,i,j,ac,bc⟩:=c;obtain⟨ml,hi,hj,hm⟩:=h;dsimp only at ml hi hj hm;unfold lo1;dsimp only;have ex:a[i]?=some a[i]:=XE;have gX:a.toList[i]?=some a[i]:=by rw[Array.getElem?_toList];exact ex
 have ey:b[j]?=some b[j]:=XE;have X4:b.toList[j]?=some b[j]:=by rw[Array.getElem?_toList];exact ey
 have hx:a[i]∈a.toList:=Xj gX;have hy:b[j]∈b.toList:=Xj X4;refine wpS_bind (eQ ey (wpS_bind (eQ ex ?_)));generalize a[i]=x at ex gX hx;generalize b[j]=y at ey X4 hy;refine wpS_bind (C.ask hk (M.ib _ hy) (M.ia _ hx) ?_);dsimp only;cases e:lt y x with
 |true=>
  rw[if_pos rfl];refine wpS_bind (eQ ey ?_);have m2:ML lt a.toList b.toList (o.push y).toList i (j+1):=by
   have:=ml.b M (k:=1) (by simp;lia) (fun y' LR z hz=>by
    rw[D8 X4]at LR;have:y'=y:=by simpa using LR
    rw[this];rw[pZ gX]at hz;rcases List.mem_cons.mp hz with rfl|hz
    ·exact e
    ·obtain⟨u,hu⟩:=mS.mp hz;exact C.tr _ (M.ib _ hy) _ (M.ia _ hx) _ (M.ia _ (Xj hu)) e (M.sa.at Xu gX hu))
   rw[D8 X4]at this;rw[Array.toList_push];exact this
  by_cases e2:(j+1==b.size)=true
  ·rw[Xp e2];refine wpS_pure ⟨rfl, .inl ⟨_,rfl,?_⟩⟩;rw[xB];exact m2.dn M (.inr (by have:=beq_iff_eq.mp e2;simpa using this))
  ·rw[Xm e2];have e2:j+1≠b.size:=fun z=>e2 (beq_iff_eq.mpr z)
   split
   ·exact wpS_pure ⟨rfl, .inr ⟨rfl,m2,hi,by show j+1<b.size;lia,by show m+1≤i+(j+1);lia⟩⟩
   ·exact wpS_pure ⟨rfl,rfl,m2,hi,by show j+1<b.size;lia,by show m+1≤i+(j+1);lia⟩
 |false=>
  rw[if_neg Xy];refine wpS_bind (eQ ex ?_);have e:=C.no (M.ib _ hy) (M.ia _ hx) (fun z=>M.ne _ hx _ hy z.symm) e;have m2:ML lt a.toList b.toList (o.push x).toList (i+1) j:=by
   have:=ml.a M (k:=1) (by simp;lia) (fun x' um z hz=>by
    rw[D8 gX]at um;have:x'=x:=by simpa using um
    rw[this];rw[pZ X4]at hz;rcases List.mem_cons.mp hz with rfl|hz
    ·exact e
    ·obtain⟨u,hu⟩:=mS.mp hz;exact C.tr _ (M.ia _ hx) _ (M.ib _ hy) _ (M.ib _ (Xj hu)) e (M.sb.at Xu X4 hu))
   rw[D8 gX]at this;rw[Array.toList_push];exact this
  by_cases e2:(i+1+1==a.size)=true
  ·rw[Xp e2];refine wpS_pure ⟨rfl, .inl ⟨_,rfl,?_⟩⟩;rw[YB];exact m2.ls M (by have:=beq_iff_eq.mp e2;simpa using this)
  ·rw[Xm e2];have e2:i+1+1≠a.size:=fun z=>e2 (beq_iff_eq.mpr z)
   split
   ·exact wpS_pure ⟨rfl, .inr ⟨rfl,m2,by show i+1+1<a.size;lia,hj,by show m+1≤i+1+j;lia⟩⟩
   ·exact wpS_pure ⟨rfl,rfl,m2,by show i+1+1<a.size;lia,hj,by show m+1≤i+1+j;lia⟩
theorem IE{st:SortSt}{c:S3}{m:Nat}(hk:kindOf st=κ)(h:XR lt a b c.2.1 c.2.2.1 c.2.2.2.1 m):wpS Xx A E s (PB a b c) (fun r aN=>Eg st aN∧match r with
  | .done c=>∃x,c.1=some x∧MG lt a.toList b.toList x.toList
  | .yield c=>c.1=none∧XR lt a b c.2.1 c.2.2.1 c.2.2.2.1 (m+1)) st:=by
 unfold PB;refine wpS_bind (wpS_mono (wpS_forRange (I:=fun x c aN=>aN=st∧c.1=none∧XR lt a b c.2.1 c.2.2.1 c.2.2.2.1 (m+x)) (Q:=fun c aN=>aN=st∧((∃x,c.1=some x∧MG lt a.toList b.toList x.toList)∨(c.1=none∧XR lt a b c.2.1 c.2.2.1 c.2.2.2.1 (m+1)))) ?_ ?_ ⟨rfl,rfl,h⟩) ?_)
 ·rintro x c aN _ hx ⟨rfl,hc,hI⟩;refine wpS_mono (ID C M hk hI) fun r aN hr=>?_
  obtain⟨rfl,hr⟩:=hr;cases r with
  |done c=>exact⟨rfl,hr.imp id fun z=>⟨z.1,z.2.1,z.2.2.1,z.2.2.2.1,by have:=z.2.2.2.2;lia⟩⟩
  |yield c=>exact⟨rfl,hr.1,hr.2⟩
 ·rintro c aN ⟨rfl,hc,h1,h2,h3,h4⟩
  lia
 rintro t aN ⟨rfl,ht⟩;rcases ht with⟨x,e,hg⟩|⟨e,hI⟩
 ·rw[e];exact wpS_pure ⟨.refl _,x,rfl,hg⟩
 rw[e];dsimp only;refine wpS_bind (wpS_lift (wpAny_rule ⟨rfl,?_⟩));refine wpS_bind (wpS_mono (wpS_forRange (I:=fun x c dG=>Eg aN dG∧c.1=none∧XR lt a b c.2.1 c.2.2.1 c.2.2.2.1 (m+1+x)) (Q:=fun c dG=>Eg aN dG∧((∃x,c.1=some x∧MG lt a.toList b.toList x.toList)∨(c.1=none∧XR lt a b c.2.1 c.2.2.1 c.2.2.2.1 (m+1)))) ?_ ?_ ⟨.refl _,rfl,hI⟩) ?_)
 ·rintro x c dG _ hx ⟨eg,hc,hI⟩;refine wpS_mono (IC C M (eg.1.trans hk) hI) fun r BN hr=>?_
  obtain⟨C4,hr⟩:=hr;cases r with
  |done c=>exact⟨eg.trans C4,hr.imp id fun z=>⟨z.1,z.2.1,z.2.2.1,z.2.2.2.1,by have:=z.2.2.2.2;lia⟩⟩
  |yield c=>exact⟨eg.trans C4,hr.1,hr.2.1,hr.2.2.1,hr.2.2.2.1,by have:=hr.2.2.2.2;lia⟩
 ·rintro c dG ⟨eg,hc,h1,h2,h3,h4⟩
  lia
 rintro u dG ⟨eg,hu⟩;rcases hu with⟨x,e,hg⟩|⟨e,hI⟩
 ·rw[e];exact wpS_pure ⟨eg,x,rfl,hg⟩
 rw[e];dsimp only;exact wpS_bind (sW fun BN PL=>wpS_pure ⟨eg.trans PL,rfl,hI⟩)
theorem IF{st:SortSt}{Q:Array Keyed→SortSt→Prop}(hk:kindOf st=κ)(ha:0<a.size)(hb:0<b.size)(q:∀r aN,Eg st aN→MG lt a.toList b.toList r.toList→Q r aN):wpS Xx A E s (Iw a b) Q st:=by
 rw[E8];refine wpS_bind (wpS_lift (wpAny_rule ⟨rfl,?_⟩));have ey:b[0]?=some b[0]:=XE;have X4:b.toList[0]?=some b[0]:=by rw[Array.getElem?_toList];exact ey
 refine wpS_bind (eQ ey ?_);have m0:ML lt a.toList b.toList [] 0 0:=⟨XE,XE, .nil,fun x hx=>(by cases hx),XE⟩
 have m1:ML lt a.toList b.toList (#[b[0]]:Array Keyed).toList 0 1:=by
  have:=m0.b M (k:=1) (by simp;lia) (fun y hy x hx=>by
   rw[D8 X4]at hy;have:y=b[0]:=by simpa using hy
   rw[this];exact M.fst x (List.mem_of_mem_drop hx) _ X4)
  rw[D8 X4]at this;exact this
 by_cases e:(1==b.size)=true
 ·rw[Xp e];refine wpS_pure (q _ _ (.refl _) ?_);rw[xB];exact m1.dn M (.inr (by have:=beq_iff_eq.mp e;simpa using this))
 rw[Xm e];have e:1≠b.size:=fun z=>e (beq_iff_eq.mpr z)
 by_cases e2:(0+1==a.size)=true
 ·rw[Xp e2];refine wpS_pure (q _ _ (.refl _) ?_);rw[YB];exact m1.ls M (by have:=beq_iff_eq.mp e2;simpa using this)
 rw[Xm e2];have e2:0+1≠a.size:=fun z=>e2 (beq_iff_eq.mpr z)
 refine wpS_bind (wpS_get ?_);refine wpS_bind (wpS_mono (wpS_forRange (I:=fun x c dG=>Eg st dG∧c.1=none∧XR lt a b c.2.1 c.2.2.1 c.2.2.2.1 x) (Q:=fun c dG=>Eg st dG∧∃x,c.1=some x∧MG lt a.toList b.toList x.toList) ?_ ?_ ⟨.refl _,rfl,m1,by show 0+1<a.size;lia,by show 1<b.size;lia,by show 0≤0+1;lia⟩) ?_)
 ·rintro x c dG _ hx ⟨eg,hc,hI⟩;refine wpS_mono (IE C M (eg.1.trans hk) hI) fun r BN hr=>?_
  obtain⟨C4,hr⟩:=hr;cases r with
  |done c=>exact⟨eg.trans C4,hr⟩
  |yield c=>exact⟨eg.trans C4,hr⟩
 ·rintro c dG ⟨eg,hc,h1,h2,h3,h4⟩
  lia
 ·rintro c dG ⟨eg,x,e,hg⟩;rw[e];exact wpS_pure (q x dG eg hg)
end
theorem wk{α:Type}{l:List α}{i:Nat}{x:α}:x∈l.take i↔∃t:Nat,t<i∧l[t]?=some x:=by
 have:=tQ (l:=l) (i:=0) (k:=i) (x:=x);simpa using this
theorem xC{α:Type}{l:List α}{i t:Nat}{x:α}:x∈(l.take i).drop t↔∃u:Nat,t≤u∧u<i∧l[u]?=some x:=by
 rw[mS];constructor
 ·rintro⟨u,hu⟩;rw[List.getElem?_take]at hu;split at hu
  ·exact⟨t+u,by lia,by assumption,hu⟩
  ·cases hu
 ·rintro⟨u,h1,h2,h3⟩;exact⟨u-t,by rw[List.getElem?_take,Xp Xu,show t+(u-t)=u by lia];exact h3⟩
theorem xD{α:Type}(l:List α){i t:Nat}(h:t≤i):l.take i=l.take t++(l.take i).drop t:=by
 conv=>lhs;rw[←List.take_append_drop t (l.take i)]
 rw[List.take_take,Nat.min_eq_left h]
section
variable{X:List Keyed}{lt:Keyed→Keyed→Bool}{P Q:List Keyed}
structure MH(lt:Keyed→Keyed→Bool)(P Q O:List Keyed)(i j:Nat):Prop where
 hi:i≤P.length
 hj:j≤Q.length
 sV:Pw lt O
 X6:∀y∈O,∀x,x∈P.take i∨x∈Q.take j→lt x y=true
 E_:((P.take i++Q.take j)++O).Perm (P++Q)
theorem MH.a{O:List Keyed}{i j t:Nat}(M:MC X lt P Q)(m:MH lt P Q O i j)(ht:t≤i)(h:∀x∈(P.take i).drop t,∀y∈Q.take j,lt y x=true):MH lt P Q ((P.take i).drop t++O) t j:=by
 have sp:=xD P ht;have sd:Pw lt (P.take i):=M.sa.sublist (List.take_sublist _ _);rw[sp]at sd;obtain⟨s1,s2,s3⟩:=List.pairwise_append.mp sd;refine⟨by have:=m.hi;lia,m.hj,List.pairwise_append.mpr ⟨s2,m.sV,fun x hx y hy=>m.X6 y hy x (.inl (List.mem_of_mem_drop hx))⟩,fun y hy x hx=>?_,?_⟩
 ·rcases List.mem_append.mp hy with hy|hy
  ·rcases hx with hx|hx
   ·exact s3 x hx y hy
   ·exact h y hy x hx
  ·exact m.X6 y hy x (hx.imp (fun z=>by rw[sp];exact List.mem_append_left _ z) id)
 ·have:=m.E_;rw[sp]at this;refine List.Perm.trans ?_ this;rw[←List.append_assoc];refine List.Perm.append_right O ?_;rw[List.append_assoc,List.append_assoc];exact List.Perm.append_left _ List.perm_append_comm
theorem MH.b{O:List Keyed}{i j t:Nat}(M:MC X lt P Q)(m:MH lt P Q O i j)(ht:t≤j)(h:∀y∈(Q.take j).drop t,∀x∈P.take i,lt x y=true):MH lt P Q ((Q.take j).drop t++O) i t:=by
 have sp:=xD Q ht;have sd:Pw lt (Q.take j):=M.sb.sublist (List.take_sublist _ _);rw[sp]at sd;obtain⟨s1,s2,s3⟩:=List.pairwise_append.mp sd;refine⟨m.hi,by have:=m.hj;lia,List.pairwise_append.mpr ⟨s2,m.sV,fun x hx y hy=>m.X6 y hy x (.inr (List.mem_of_mem_drop hx))⟩,fun y hy x hx=>?_,?_⟩
 ·rcases List.mem_append.mp hy with hy|hy
  ·rcases hx with hx|hx
   ·exact h y hy x hx
   ·exact s3 x hx y hy
  ·exact m.X6 y hy x (hx.imp id (fun z=>by rw[sp];exact List.mem_append_left _ z))
 ·have:=m.E_;rw[sp]at this;rw[←List.append_assoc,List.append_assoc (P.take i)];exact this
theorem MH.dn{O:List Keyed}{i j:Nat}(M:MC X lt P Q)(m:MH lt P Q O i j)(h:i=0∨j=0):MG lt P Q (P.take i++Q.take j++O):=by
 refine⟨m.E_,?_⟩;have sa:Pw lt (P.take i):=M.sa.sublist (List.take_sublist _ _);have sb:Pw lt (Q.take j):=M.sb.sublist (List.take_sublist _ _);refine List.pairwise_append.mpr ⟨List.pairwise_append.mpr ⟨sa,sb,fun x hx y hy=>?_⟩,m.sV,fun x hx y hy=>m.X6 y hy x (List.mem_append.mp hx)⟩;rcases h with h|h
 ·rw[h,List.take_zero]at hx;cases hx
 ·rw[h,List.take_zero]at hy;cases hy
theorem MH.fb{O:List Keyed}{i j:Nat}(M:MC X lt P Q)(m:MH lt P Q O i j)(h:j=1):MG lt P Q (Q.take j++P.take i++O):=by
 have sa:Pw lt (P.take i):=M.sa.sublist (List.take_sublist _ _);have sb:Pw lt (Q.take j):=M.sb.sublist (List.take_sublist _ _);refine⟨(List.Perm.append_right O List.perm_append_comm).trans m.E_,List.pairwise_append.mpr ⟨List.pairwise_append.mpr ⟨sb,sa,fun y hy x hx=>?_⟩,m.sV,fun x hx y hy=>m.X6 y hy x (List.mem_append.mp hx).symm⟩⟩;obtain⟨t,h1,h2⟩:=wk.mp hy;have:t=0:=by lia
 subst this;exact M.fst x (List.mem_of_mem_take hx) y h2
end
section
variable{prog:Program}{w:World}{A:Around}{E:Value→Shared→Prop}{s:Shared}{X:List Keyed}{κ:SortKind}{lt:Keyed→Keyed→Bool}(C:CW prog w A s X κ lt){a b:Array Keyed}(M:MC X lt a.toList b.toList)
theorem xE(o:Array Keyed)(i j:Nat):(D6 a b o i j).toList=a.toList.take i++b.toList.take j++o.toList.reverse:=by
 unfold D6;simp[Array.toList_extract,List.extract_eq_take_drop]
theorem Y9(o:Array Keyed)(i j:Nat):(J9 a b o i j).toList=b.toList.take j++a.toList.take i++o.toList.reverse:=by
 unfold J9;simp[Array.toList_extract,List.extract_eq_take_drop]
theorem GD(o:Array Keyed)(c:Array Keyed)(t i:Nat):(o++(c.extract t i).reverse).toList.reverse=(c.toList.take i).drop t++o.toList.reverse:=by
 simp[Array.toList_extract,List.extract_eq_take_drop,List.drop_take]
theorem Y6(o:Array Keyed)(x:Keyed):(o.push x).toList.reverse=[x]++o.toList.reverse:=XE
theorem D9{l:List Keyed}{i:Nat}{x:Keyed}(h0:0<i)(h:l[i-1]?=some x):(l.take i).drop (i-1)=[x]:=by
 have:l.take i=l.take (i-1)++[x]:=by
  conv=>lhs;rw[show i=i-1+1 by lia]
  rw[List.take_succ,h];rfl
 rw[this];have hl:=(Xc h).1;rw[List.drop_left' (by simp;lia)]
theorem sX{l:List Keyed}(C:CW prog w A s X κ lt)(hs:Pw lt l)(pC:∀x∈l,x∈X){i:Nat}{x z:Keyed}(h:l[i-1]?=some x)(hz:z∈l.take i){y:Keyed}(hy:y∈X)(XJ:lt x y=true):lt z y=true:=by
 obtain⟨t,h1,h2⟩:=wk.mp hz;by_cases e:t=i-1
 ·subst e;rw[h]at h2;cases h2;exact XJ
 ·exact C.tr _ (pC _ (Xj h2)) _ (pC _ (Xj h)) _ hy (hs.at Xu h2 h) XJ
def XO(lt:Keyed→Keyed→Bool)(a b:Array Keyed)(o:Array Keyed)(i j m:Nat):Prop:=MH lt a.toList b.toList o.toList.reverse i j∧0<i∧1<j∧m+i+j≤a.size+b.size
def IG(lt:Keyed→Keyed→Bool)(a b:Array Keyed)(m:Nat)(st:SortSt)(r:ForInStep T2)(aN:SortSt):Prop:=Eg st aN∧match r with
 | .done c=>(∃x,c.1=some x∧MG lt a.toList b.toList x.toList)∨(c.1=none∧XO lt a b c.2.2.2.1 c.2.1 c.2.2.1 m)
 | .yield c=>c.1=none∧XO lt a b c.2.2.2.1 c.2.1 c.2.2.1 m
include C M
theorem C5{st:SortSt}{o:Array Keyed}{i j mg k l m:Nat}(ml:MH lt a.toList b.toList o.toList.reverse i j)(hi:0<i)(hj:1<j)(hm:m+i+j≤a.size+b.size+1)(h:∀x,a.toList[i-1]?=some x→∀y∈b.toList.take j,lt y x=true):wpS Xx A E s (Nv a b o i j mg k l) (IG lt a b m st) st:=by
 unfold Nv;have PM:i≤a.size:=by have:=ml.hi;simpa using this
 have ex:a[i-1]?=some a[i-1]:=XE;have gX:a.toList[i-1]?=some a[i-1]:=by rw[Array.getElem?_toList];exact ex
 refine wpS_bind (eQ ex ?_);have m2:MH lt a.toList b.toList (o.push a[i-1]).toList.reverse (i-1) j:=by
  have:=ml.a M (t:=i-1) (by lia) (fun x hx y hy=>by
   rw[D9 hi gX]at hx;have:x=a[i-1]:=by simpa using hx
   rw[this];exact h _ gX y hy)
  rw[D9 hi gX]at this;rw[Y6];exact this
 by_cases e:(i-1==0)=true
 ·rw[Xp e];refine wpS_pure ⟨.refl _, .inl ⟨_,rfl,?_⟩⟩;rw[xE];exact m2.dn M (.inl (beq_iff_eq.mp e))
 ·rw[Xm e];have e:i-1≠0:=fun z=>e (beq_iff_eq.mpr z)
  split
  ·exact wpS_pure ⟨.refl _, .inr ⟨rfl,m2,by show 0<i-1;lia,hj,by show m+(i-1)+j≤_;lia⟩⟩
  ·exact wpS_pure ⟨.refl _,rfl,m2,by show 0<i-1;lia,hj,by show m+(i-1)+j≤_;lia⟩
theorem IH{st:SortSt}{o:Array Keyed}{i j mg k bc m:Nat}(hk:kindOf st=κ)(ml:MH lt a.toList b.toList o.toList.reverse i j)(hi:0<i)(hj:1<j)(hm:m+i+j≤a.size+b.size+1):wpS Xx A E s (PF a b o i j mg k bc) (IG lt a b m st) st:=by
 unfold PF;have PM:i≤a.size:=by have:=ml.hi;simpa using this
 have PN:j≤b.size:=by have:=ml.hj;simpa using this
 have ex:a[i-1]?=some a[i-1]:=XE;have gX:a.toList[i-1]?=some a[i-1]:=by rw[Array.getElem?_toList];exact ex
 have hx:a[i-1]∈a.toList:=Xj gX;refine wpS_bind (eQ ex ?_);generalize a[i-1]=x at ex gX hx;have gb:∀t,t<j→b[0+t]?=some (b.getD t (.none, .none)):=fun t ht=>by simp[show t<b.size by lia]
 have sr:∀t,t<j→b.toList[t]?=some (b.getD t (.none, .none)):=fun t ht=>by rw[Array.getElem?_toList];simpa using gb t ht
 refine wpS_bind (qZ C (fun t=>b.getD t (.none, .none)) hk (M.ia _ hx) (fun t ht=>⟨gb t ht,M.ib _ (Xj (sr t ht))⟩) (fun t u h1 h2=>M.sb.at h1 (sr t Xu) (sr u h2)) (by lia) fun t hl h1 h2=>?_);dsimp only;have X6:∀y∈(b.toList.take j).drop t,∀z∈a.toList.take i,lt z y=true:=fun y hy z hz=>by
  obtain⟨u,h3,h4,h5⟩:=xC.mp hy;have hb:=h2 u h3 h4;rw[sr u h4]at h5;have h5:=Xs h5;simp only[mD,if_true]at hb;rw[h5]at hb;have PQ:=List.mem_of_mem_take (List.mem_of_mem_drop hy);have hb:=C.no (M.ib _ PQ) (M.ia _ hx) (fun z=>M.ne _ hx _ PQ z.symm) hb;exact sX C M.sa M.ia gX hz (M.ib _ PQ) hb
 have low:∀y∈b.toList.take t,lt y x=true:=fun y hy=>by
  obtain⟨u,h3,h4⟩:=wk.mp hy;have hb:=h1 u h3;rw[sr u Xu]at h4;have h4:=Xs h4;simp only[mD,if_true]at hb;rw[h4]at hb;exact hb
 have m2:MH lt a.toList b.toList (o++(b.extract t j).reverse).toList.reverse i t:=by
  rw[GD];exact ml.b M hl X6
 by_cases IB:j-t>0
 ·rw[Xp IB];by_cases e:(t==1)=true
  ·rw[Xp e];refine wpS_pure ⟨.refl _, .inl ⟨_,rfl,?_⟩⟩;rw[Y9];exact m2.fb M (beq_iff_eq.mp e)
  ·rw[Xm e];have e:t≠1:=fun z=>e (beq_iff_eq.mpr z)
   by_cases e2:(t==0)=true
   ·rw[Xp e2];refine wpS_pure ⟨.refl _, .inl ⟨_,rfl,?_⟩⟩;rw[xE];exact m2.dn M (.inr (beq_iff_eq.mp e2))
   ·rw[Xm e2];have e2:t≠0:=fun z=>e2 (beq_iff_eq.mpr z)
    exact C5 C M m2 hi Xu (by lia) fun y hy=>by rw[gX]at hy;cases hy;exact low
 ·rw[Xm IB];have:t=j:=by lia
  subst this;exact C5 C M ml hi hj hm fun y hy=>by rw[gX]at hy;cases hy;exact low
theorem C6{st:SortSt}{o:Array Keyed}{i j mg k bc m:Nat}(hk:kindOf st=κ)(ml:MH lt a.toList b.toList o.toList.reverse i j)(hi:0<i)(hj:1<j)(hm:m+i+j≤a.size+b.size+2)(h:∀y,b.toList[j-1]?=some y→∀x∈a.toList.take i,lt x y=true):wpS Xx A E s (Nw a b o i j mg k bc) (IG lt a b m st) st:=by
 unfold Nw;have PN:j≤b.size:=by have:=ml.hj;simpa using this
 have ex:b[j-1]?=some b[j-1]:=XE;have gX:b.toList[j-1]?=some b[j-1]:=by rw[Array.getElem?_toList];exact ex
 refine wpS_bind (eQ ex ?_);have m2:MH lt a.toList b.toList (o.push b[j-1]).toList.reverse i (j-1):=by
  have:=ml.b M (t:=j-1) (by lia) (fun x hx y hy=>by
   rw[D9 Xu gX]at hx;have:x=b[j-1]:=by simpa using hx
   rw[this];exact h _ gX y hy)
  rw[D9 Xu gX]at this;rw[Y6];exact this
 by_cases e:(j-1==1)=true
 ·rw[Xp e];refine wpS_pure ⟨.refl _, .inl ⟨_,rfl,?_⟩⟩;rw[Y9];exact m2.fb M (beq_iff_eq.mp e)
 ·rw[Xm e];have e:j-1≠1:=fun z=>e (beq_iff_eq.mpr z)
  exact IH C M hk m2 hi Xu (by lia)
theorem C9{st:SortSt}{o:Array Keyed}{i j mg ac bc m:Nat}(hk:kindOf st=κ)(h:XO lt a b o i j m):wpS Xx A E s (D7 a b o i j mg ac bc) (IG lt a b (m+2) st) st:=by
 obtain⟨ml,hi,hj,hm⟩:=h;have PM:i≤a.size:=by have:=ml.hi;simpa using this
 have PN:j≤b.size:=by have:=ml.hj;simpa using this
 unfold D7;refine wpS_bind (sW fun XH eg=>?_);have GC:kindOf XH=κ:=eg.1.trans hk;have fin:∀{m:Nat}{p:StateT SortSt Sem (ForInStep T2)},wpS Xx A E s p (IG lt a b m XH) XH→wpS Xx A E s p (IG lt a b m st) XH:=fun h=>wpS_mono h fun r aN z=>⟨eg.trans z.1,z.2⟩
 refine fin ?_;have ex:b[j-1]?=some b[j-1]:=XE;have gX:b.toList[j-1]?=some b[j-1]:=by rw[Array.getElem?_toList];exact ex
 have hx:b[j-1]∈b.toList:=Xj gX;refine wpS_bind (eQ ex ?_);generalize b[j-1]=y at ex gX hx;have gb:∀t,t<i→a[0+t]?=some (a.getD t (.none, .none)):=fun t ht=>by simp[show t<a.size by lia]
 have sr:∀t,t<i→a.toList[t]?=some (a.getD t (.none, .none)):=fun t ht=>by rw[Array.getElem?_toList];simpa using gb t ht
 refine wpS_bind (qZ C (fun t=>a.getD t (.none, .none)) GC (M.ib _ hx) (fun t ht=>⟨gb t ht,M.ia _ (Xj (sr t ht))⟩) (fun t u h1 h2=>M.sa.at h1 (sr t Xu) (sr u h2)) (by lia) fun t hl h1 h2=>?_);dsimp only;have X6:∀x∈(a.toList.take i).drop t,∀z∈b.toList.take j,lt z x=true:=fun x um z hz=>by
  obtain⟨u,h3,h4,h5⟩:=xC.mp um;have hb:=h2 u h3 h4;rw[sr u h4]at h5;have h5:=Xs h5;simp only[mD,Bool.false_eq_true,if_false,Bool.not_eq_false']at hb;rw[h5]at hb;exact sX C M.sb M.ib gX hz (M.ia _ (List.mem_of_mem_take (List.mem_of_mem_drop um))) hb
 have low:∀x∈a.toList.take t,lt x y=true:=fun x um=>by
  obtain⟨u,h3,h4⟩:=wk.mp um;have hb:=h1 u h3;rw[sr u Xu]at h4;have h4:=Xs h4;have Gj:=List.mem_of_mem_take um;simp only[mD,Bool.false_eq_true,if_false,Bool.not_eq_true']at hb;rw[h4]at hb;exact C.no (M.ib _ hx) (M.ia _ Gj) (fun z=>M.ne _ Gj _ hx z.symm) hb
 have m2:MH lt a.toList b.toList (o++(a.extract t i).reverse).toList.reverse t j:=by
  rw[GD];exact ml.a M hl X6
 by_cases X9:i-t>0
 ·rw[Xp X9];by_cases e:(t==0)=true
  ·rw[Xp e];refine wpS_pure ⟨.refl _, .inl ⟨_,rfl,?_⟩⟩;rw[xE];exact m2.dn M (.inl (beq_iff_eq.mp e))
  ·rw[Xm e];have e:t≠0:=fun z=>e (beq_iff_eq.mpr z)
   exact C6 C M GC m2 Xu hj Xu fun z hz=>by rw[gX]at hz;cases hz;exact low
 ·rw[Xm X9];have:t=i:=by lia
  subst this;exact C6 C M GC ml hi hj Xu fun z hz=>by rw[gX]at hz;cases hz;exact low
theorem II{st:SortSt}{c:T2}{m:Nat}(hk:kindOf st=κ)(h:XO lt a b c.2.2.2.1 c.2.1 c.2.2.1 m):wpS Xx A E s (PH a b c) (IG lt a b (m+2) st) st:=by
 unfold PH;split
 ·exact C9 C M hk h
 ·exact C9 C M hk h
theorem IJ{st:SortSt}{c:T1}{mg m:Nat}(hk:kindOf st=κ)(h:XO lt a b c.2.2.2.1 c.2.1 c.2.2.1 m):wpS Xx A E s (PD a b mg c) (fun r aN=>aN=st∧match r with
  | .done c=>(∃x,c.1=some x∧MG lt a.toList b.toList x.toList)∨(c.1=none∧XO lt a b c.2.2.2.1 c.2.1 c.2.2.1 (m+1))
  | .yield c=>c.1=none∧XO lt a b c.2.2.2.1 c.2.1 c.2.2.1 (m+1)) st:=by
 obtain⟨r,i,j,o,ac,bc⟩:=c;obtain⟨ml,hi,hj,hm⟩:=h;dsimp only at ml hi hj hm;have PM:i≤a.size:=by have:=ml.hi;simpa using this
 have PN:j≤b.size:=by have:=ml.hj;simpa using this
 unfold PD;dsimp only;have ex:a[i-1]?=some a[i-1]:=XE;have gX:a.toList[i-1]?=some a[i-1]:=by rw[Array.getElem?_toList];exact ex
 have ey:b[j-1]?=some b[j-1]:=XE;have X4:b.toList[j-1]?=some b[j-1]:=by rw[Array.getElem?_toList];exact ey
 have hx:a[i-1]∈a.toList:=Xj gX;have hy:b[j-1]∈b.toList:=Xj X4;refine wpS_bind (eQ ey (wpS_bind (eQ ex ?_)));generalize a[i-1]=x at ex gX hx;generalize b[j-1]=y at ey X4 hy;refine wpS_bind (C.ask hk (M.ib _ hy) (M.ia _ hx) ?_);dsimp only;cases e:lt y x with
 |true=>
  rw[if_pos rfl];refine wpS_bind (eQ ex ?_);have m2:MH lt a.toList b.toList (o.push x).toList.reverse (i-1) j:=by
   have:=ml.a M (t:=i-1) (by lia) (fun x' um z hz=>by
    rw[D9 hi gX]at um;have:x'=x:=by simpa using um
    rw[this];exact sX C M.sb M.ib X4 hz (M.ia _ hx) e)
   rw[D9 hi gX]at this;rw[Y6];exact this
  by_cases e2:(i-1==0)=true
  ·rw[Xp e2];refine wpS_pure ⟨rfl, .inl ⟨_,rfl,?_⟩⟩;rw[xE];exact m2.dn M (.inl (beq_iff_eq.mp e2))
  ·rw[Xm e2];have e2:i-1≠0:=fun z=>e2 (beq_iff_eq.mpr z)
   split
   ·exact wpS_pure ⟨rfl, .inr ⟨rfl,m2,by show 0<i-1;lia,hj,by show m+1+(i-1)+j≤_;lia⟩⟩
   ·exact wpS_pure ⟨rfl,rfl,m2,by show 0<i-1;lia,hj,by show m+1+(i-1)+j≤_;lia⟩
 |false=>
  rw[if_neg Xy];refine wpS_bind (eQ ey ?_);have e:=C.no (M.ib _ hy) (M.ia _ hx) (fun z=>M.ne _ hx _ hy z.symm) e;have m2:MH lt a.toList b.toList (o.push y).toList.reverse i (j-1):=by
   have:=ml.b M (t:=j-1) (by lia) (fun y' LR z hz=>by
    rw[D9 Xu X4]at LR;have:y'=y:=by simpa using LR
    rw[this];exact sX C M.sa M.ia gX hz (M.ib _ hy) e)
   rw[D9 Xu X4]at this;rw[Y6];exact this
  by_cases e2:(j-1==1)=true
  ·rw[Xp e2];refine wpS_pure ⟨rfl, .inl ⟨_,rfl,?_⟩⟩;rw[Y9];exact m2.fb M (beq_iff_eq.mp e2)
  ·rw[Xm e2];have e2:j-1≠1:=fun z=>e2 (beq_iff_eq.mpr z)
   split
   ·exact wpS_pure ⟨rfl, .inr ⟨rfl,m2,hi,by show 1<j-1;lia,by show m+1+i+(j-1)≤_;lia⟩⟩
   ·exact wpS_pure ⟨rfl,rfl,m2,hi,by show 1<j-1;lia,by show m+1+i+(j-1)≤_;lia⟩
theorem IK{st:SortSt}{c:T3}{m:Nat}(hk:kindOf st=κ)(h:XO lt a b c.2.2.2.1 c.2.1 c.2.2.1 m):wpS Xx A E s (PK a b c) (fun r aN=>Eg st aN∧match r with
  | .done c=>∃x,c.1=some x∧MG lt a.toList b.toList x.toList
  | .yield c=>c.1=none∧XO lt a b c.2.2.2.1 c.2.1 c.2.2.1 (m+1)) st:=by
 unfold PK;refine wpS_bind (wpS_mono (wpS_forRange (I:=fun x c aN=>aN=st∧c.1=none∧XO lt a b c.2.2.2.1 c.2.1 c.2.2.1 (m+x)) (Q:=fun c aN=>aN=st∧((∃x,c.1=some x∧MG lt a.toList b.toList x.toList)∨(c.1=none∧XO lt a b c.2.2.2.1 c.2.1 c.2.2.1 (m+1)))) ?_ ?_ ⟨rfl,rfl,h⟩) ?_)
 ·rintro x c aN _ hx ⟨rfl,hc,hI⟩;refine wpS_mono (IJ C M hk hI) fun r aN hr=>?_
  obtain⟨rfl,hr⟩:=hr;cases r with
  |done c=>exact⟨rfl,hr.imp id fun z=>⟨z.1,z.2.1,z.2.2.1,z.2.2.2.1,by have:=z.2.2.2.2;lia⟩⟩
  |yield c=>exact⟨rfl,hr.1,hr.2⟩
 ·rintro c aN ⟨rfl,hc,h1,h2,h3,h4⟩
  lia
 rintro t aN ⟨rfl,ht⟩;rcases ht with⟨x,e,hg⟩|⟨e,hI⟩
 ·rw[e];exact wpS_pure ⟨.refl _,x,rfl,hg⟩
 rw[e];dsimp only;refine wpS_bind (wpS_lift (wpAny_rule ⟨rfl,?_⟩));refine wpS_bind (wpS_mono (wpS_forRange (I:=fun x c dG=>Eg aN dG∧c.1=none∧XO lt a b c.2.2.2.1 c.2.1 c.2.2.1 (m+1+x)) (Q:=fun c dG=>Eg aN dG∧((∃x,c.1=some x∧MG lt a.toList b.toList x.toList)∨(c.1=none∧XO lt a b c.2.2.2.1 c.2.1 c.2.2.1 (m+1)))) ?_ ?_ ⟨.refl _,rfl,hI⟩) ?_)
 ·rintro x c dG _ hx ⟨eg,hc,hI⟩;refine wpS_mono (II C M (eg.1.trans hk) hI) fun r BN hr=>?_
  obtain⟨C4,hr⟩:=hr;cases r with
  |done c=>exact⟨eg.trans C4,hr.imp id fun z=>⟨z.1,z.2.1,z.2.2.1,z.2.2.2.1,by have:=z.2.2.2.2;lia⟩⟩
  |yield c=>exact⟨eg.trans C4,hr.1,hr.2.1,hr.2.2.1,hr.2.2.2.1,by have:=hr.2.2.2.2;lia⟩
 ·rintro c dG ⟨eg,hc,h1,h2,h3,h4⟩
  lia
 rintro u dG ⟨eg,hu⟩;rcases hu with⟨x,e,hg⟩|⟨e,hI⟩
 ·rw[e];exact wpS_pure ⟨eg,x,rfl,hg⟩
 rw[e];dsimp only;exact wpS_bind (sW fun BN PL=>wpS_pure ⟨eg.trans PL,rfl,hI⟩)
theorem IL{st:SortSt}{Q:Array Keyed→SortSt→Prop}(hk:kindOf st=κ)(ha:0<a.size)(hb:0<b.size)(q:∀r aN,Eg st aN→MG lt a.toList b.toList r.toList→Q r aN):wpS Xx A E s (Iy a b) Q st:=by
 rw[E9];refine wpS_bind (wpS_lift (wpAny_rule ⟨rfl,?_⟩));have ex:a[a.size-1]?=some a[a.size-1]:=XE;have gX:a.toList[a.size-1]?=some a[a.size-1]:=by rw[Array.getElem?_toList];exact ex
 refine wpS_bind (eQ ex ?_);have m0:MH lt a.toList b.toList [] a.size b.size:=⟨XE,XE, .nil,fun x hx=>(by cases hx),by rw[List.take_of_length_le Xy,List.take_of_length_le Xy];simp⟩
 have m1:MH lt a.toList b.toList (#[a[a.size-1]]:Array Keyed).toList.reverse (a.size-1) b.size:=by
  have:=m0.a M (t:=a.size-1) (by lia) (fun x hx y hy=>by
   rw[D9 ha gX]at hx;have:x=a[a.size-1]:=by simpa using hx
   rw[this];exact M.lst y (List.mem_of_mem_take hy) _ (by simpa using gX))
  rw[D9 ha gX]at this;simpa using this
 by_cases e:(a.size-1==0)=true
 ·rw[Xp e];refine wpS_pure (q _ _ (.refl _) ?_);rw[xE];exact m1.dn M (.inl (beq_iff_eq.mp e))
 rw[Xm e];have e:a.size-1≠0:=fun z=>e (beq_iff_eq.mpr z)
 by_cases e2:(b.size==1)=true
 ·rw[Xp e2];refine wpS_pure (q _ _ (.refl _) ?_);rw[Y9];exact m1.fb M (beq_iff_eq.mp e2)
 rw[Xm e2];have e2:b.size≠1:=fun z=>e2 (beq_iff_eq.mpr z)
 refine wpS_bind (wpS_get ?_);refine wpS_bind (wpS_mono (wpS_forRange (I:=fun x c dG=>Eg st dG∧c.1=none∧XO lt a b c.2.2.2.1 c.2.1 c.2.2.1 x) (Q:=fun c dG=>Eg st dG∧∃x,c.1=some x∧MG lt a.toList b.toList x.toList) ?_ ?_ ⟨.refl _,rfl,m1,by show 0<a.size-1;lia,by show 1<b.size;lia,by show 0+(a.size-1)+b.size≤_;lia⟩) ?_)
 ·rintro x c dG _ hx ⟨eg,hc,hI⟩;refine wpS_mono (IK C M (eg.1.trans hk) hI) fun r BN hr=>?_
  obtain⟨C4,hr⟩:=hr;cases r with
  |done c=>exact⟨eg.trans C4,hr⟩
  |yield c=>exact⟨eg.trans C4,hr⟩
 ·rintro c dG ⟨eg,hc,h1,h2,h3,h4⟩
  lia
 ·rintro c dG ⟨eg,x,e,hg⟩;rw[e];exact wpS_pure (q x dG eg hg)
end
def Nx(lo i n:Nat):StateT SortSt Sem AscSt:=forIn [i:n] ((none,i):AscSt) fun _ c=>do
 let z←ltAt' (lo+c.2) (lo+c.2-1)
 match z with
 |some v=>if v=true then pure (.done (none,c.2))else pure (.yield (none,c.2+1))
 | _=>pure (.done (some none,c.2))
def Ny(lo i n:Nat):StateT SortSt Sem (Option Nat):=do
 reverseSlice' lo (lo+i)
 let t←Nx lo i n
 match t.1 with
 |some r=>pure r
 |none=>pure (some t.2)
def PR(lo i n:Nat):StateT SortSt Sem DescSt:=forIn [i:n] ((none,i,0):DescSt) fun _ c=>do
 let z←ltAt' (lo+c.2.1) (lo+c.2.1-1)
 match z with
 |some v=>
  if v=true then
   if c.2.2>0 then do
    reverseSlice' (lo+c.2.1-(c.2.2+1)) (lo+c.2.1)
    pure (.yield (none,c.2.1+1,0))
   else pure (.yield (none,c.2.1+1,0))
  else do
   let z←ltAt' (lo+c.2.1-1) (lo+c.2.1)
   match z with
   |some v=>if v=true then pure (.done (none,c.2.1,c.2.2))else pure (.yield (none,c.2.1+1,c.2.2+1))
   | _=>pure (.done (some none,c.2.1,c.2.2))
 | _=>pure (.done (some none,c.2.1,c.2.2))
def PU(lo i n:Nat):StateT SortSt Sem (Option Nat):=do
 liftM (rule "list.sort.descending-run")
 let t←PR lo (i+1) n
 match t.1 with
 |some r=>pure r
 |none=>
  if t.2.2>0 then do
   reverseSlice' (lo+t.2.1-(t.2.2+1)) (lo+t.2.1)
   Ny lo t.2.1 n
  else Ny lo t.2.1 n
theorem IM(lo n:Nat):countRun' lo n=(do
 let t←Nx lo 1 n
 match t.1 with
 |some r=>pure r
 |none=>
  if (t.2==n)=true then pure (some t.2)
  else if t.2>1 then do
   let z←ltAt' lo (lo+t.2-1)
   match z with
   |some v=>if v=true then pure (some t.2)else do
     reverseSlice' lo (lo+t.2)
     PU lo t.2 n
   | _=>pure none
  else PU lo t.2 n):=by kernel_rfl
def Rx(lo k:Nat):StateT SortSt Sem (Option Bool×Nat×Nat):=forIn [0:k] ((none,0,k):Option Bool×Nat×Nat) fun _ c=>
 if c.2.1≥c.2.2 then pure (.done (none,c.2.1,c.2.2))
 else do
  let z←ltAt' (lo+k) (lo+(c.2.1+c.2.2)/2)
  match z with
  |some v=>if v=true then pure (.yield (none,c.2.1,(c.2.1+c.2.2)/2))else pure (.yield (none,(c.2.1+c.2.2)/2+1,c.2.2))
  | _=>pure (.done (some false,c.2.1,c.2.2))
theorem IP(lo n ok:Nat):binarySort' lo n ok=(do
 let t←forIn [max ok 1:n] ((none,()):Option Bool×Unit) fun k _=>do
  let t←Rx lo k
  match t.1 with
  |some r=>pure (.done (some r,()))
  |none=>do
   moveDown' (lo+k) (lo+t.2.1)
   pure (.yield (none,()))
 match t.1 with
 |some r=>pure r
 |none=>pure true):=by kernel_rfl
def By(j:Nat)(m:Array Keyed)(st:SortSt):SortSt:=setArr st (m.toList.zipIdx.foldl (fun c q=>c.setIfInBounds (j+q.2) q.1) (arrOf st))
theorem IQ(i:Nat):mergeAt' i=(do
 let g←get
 let (some (p,m,v),some (q,n,_)):=((pendingOf g)[i]?,(pendingOf g)[i+1]?)|unsupported "internal:list.sort.pending"
 set (setPending g (((pendingOf g).setIfInBounds i (p,m+n,v)).eraseIdxIfInBounds (i+1)))
 let some k←xA false (←elem' (arrOf g) q) (arrOf g) p m 0|return false
 if m-k==0 then return true
 let some n←xA true (←elem' (arrOf g) (p+k+(m-k)-1)) (arrOf g) q n (n-1)|return false
 if n==0 then return true
 let r←if m-k≤n then Iw ((arrOf g).extract (p+k) q) ((arrOf g).extract q (q+n))else Iy ((arrOf g).extract (p+k) q) ((arrOf g).extract q (q+n))
 modify fun st=>By (p+k) r st
 return (failedOf (←get)).isNone):=by kernel_rfl
def PV(n w:Nat):StateT SortSt Sem (Option Unit×Unit):=forIn [0:n] ((none,()):Option Unit×Unit) fun _ _=>do
 let g←get
 match (if (pendingOf g).size>1 then(pendingOf g)[(pendingOf g).size-2]? else none)with
 |some (_,_,v)=>
  if v≤w then pure (.done (none,()))
  else do
   let z←mergeAt' ((pendingOf g).size-2)
   if (!z)=true then pure (.done (some (),()))else pure (.yield (none,()))
 | _=>pure (.done (none,()))
def Ry(w:Nat)(st:SortSt):SortSt:=setPending st ((pendingOf st).modify ((pendingOf st).size-1) fun(p,l,_)=>(p,l,w))
def Nz(lo n:Nat)(st:SortSt):SortSt:=setPending st ((pendingOf st).push (lo,n,0))
def NA(N lo n:Nat):StateT SortSt Sem (ForInStep (Option Unit×Nat)):=do
 let g←get
 match (pendingOf g).back? with
 |some (p,l,_)=>do
  let t←PV N (power' N (2*p+l) (2*p+l+l+n) N)
  match t.1 with
  |some r=>pure (.done (some r,lo))
  |none=>do
   modify (Ry (power' N (2*p+l) (2*p+l+l+n) N))
   modify (Nz lo n)
   pure (.yield (none,lo+n))
 | _=>do
  modify (Nz lo n)
  pure (.yield (none,lo+n))
def PX(N:Nat):StateT SortSt Sem (Option Unit×Unit):=forIn [0:N] ((none,()):Option Unit×Unit) fun _ _=>do
 let g←get
 if (pendingOf g).size≤1 then pure (.done (none,()))
 else do
  let z←mergeAt' (if (if (pendingOf g).size-2>0 then((pendingOf g)[(pendingOf g).size-2-1]?).map (·.2.1)else none).any (·<((pendingOf g)[(pendingOf g).size-2+1]?.elim 0 (·.2.1)))then(pendingOf g).size-2-1 else(pendingOf g).size-2)
  if (!z)=true then pure (.done (some (),()))else pure (.yield (none,()))
theorem Fb:sortRuns'=(do
 let g←get
 let t←forIn [0:(arrOf g).size] ((none,0):Option Unit×Nat) fun _ c=>
  if c.2≥(arrOf g).size then pure (.done (none,c.2))
  else do
   let z←countRun' c.2 ((arrOf g).size-c.2)
   match z with
   |some n=>
    if n<minRun' (arrOf g).size (arrOf g).size 0 then do
     liftM (rule "list.sort.binary-insertion")
     let z←binarySort' c.2 (min ((arrOf g).size-c.2) (minRun' (arrOf g).size (arrOf g).size 0)) n
     if (!z)=true then pure (.done (some (),c.2))else NA (arrOf g).size c.2 (min ((arrOf g).size-c.2) (minRun' (arrOf g).size (arrOf g).size 0))
    else NA (arrOf g).size c.2 n
   | _=>pure (.done (some (),c.2))
 match t.1 with
 |some r=>pure r
 |none=>do
  let u←PX (arrOf g).size
  match u.1 with
  |some r=>pure r
  |none=>pure ()):=by kernel_rfl
abbrev gg(xs:Array Keyed)(k:Nat):Keyed:=xs.getD k (.none, .none)
theorem p5(xs:Array Keyed)(k:Nat):gg xs k=(xs[k]?).getD (.none, .none):=by unfold gg;rw[Array.getD_eq_getD_getElem?]
theorem my{xs:Array Keyed}{k:Nat}(h:k<xs.size):xs[k]?=some (gg xs k):=by simp[h]
def Sw(lt:Keyed→Keyed→Bool)(xs:Array Keyed)(a b:Nat):Prop:=∀i j,a≤i→i<j→j<b→lt (gg xs i) (gg xs j)=true
def Dw(lt:Keyed→Keyed→Bool)(xs:Array Keyed)(a b:Nat):Prop:=∀i j,a≤i→i<j→j<b→lt (gg xs j) (gg xs i)=true
theorem Sw.congr{lt:Keyed→Keyed→Bool}{xs ys:Array Keyed}{a b:Nat}(h:Sw lt xs a b)(e:∀t,a≤t→t<b→gg ys t=gg xs t):Sw lt ys a b:=fun i j h1 h2 h3=>by rw[e i h1 Xu,e j Xu h3];exact h i j h1 h2 h3
structure SB(X:List Keyed)(κ:SortKind)(st:SortSt):Prop where
 pm:(arrOf st).toList.Perm X
 kd:kindOf st=κ
 fl:failedOf st=none
theorem Fe{σ:Type}{M:Model}{A:Around}{E:Value→Shared→Prop}{s:Shared}{x:σ}{Q:PUnit→σ→Prop}{st:σ}(h:Q ⟨⟩ x):wpS M A E s (set x:StateT σ Sem PUnit) Q st:=by
 unfold wpS;rw[StateT.run_set];exact wpAny_pure ⟨rfl,h⟩
section
variable{prog:Program}{w:World}{A:Around}{E:Value→Shared→Prop}{s:Shared}{X:List Keyed}{κ:SortKind}{lt:Keyed→Keyed→Bool}
theorem SB.size{st:SortSt}(b:SB X κ st):(arrOf st).size=X.length:=by have:=b.pm.length_eq;simpa using this
theorem SB.mem{st:SortSt}(b:SB X κ st){k:Nat}(h:k<X.length):gg (arrOf st) k∈X:=by
 have:=my (xs:=arrOf st) (k:=k) (by rw[b.size];exact h);rw[←Array.getElem?_toList]at this;exact b.pm.mem_iff.mp (Xj this)
theorem SB.inj{st:SortSt}(C:CW prog w A s X κ lt)(b:SB X κ st){i j:Nat}(hi:i<X.length)(hj:j<X.length)(h:i≠j):gg (arrOf st) i≠gg (arrOf st) j:=fun e=>by
 have h1:=my (xs:=arrOf st) (k:=i) (by rw[b.size];exact hi);have h2:=my (xs:=arrOf st) (k:=j) (by rw[b.size];exact hj);rw[←Array.getElem?_toList]at h1 h2;have nd:(arrOf st).toList.Nodup:=b.pm.nodup_iff.mpr C.nd;exact h ((List.getElem?_inj (Xc h1).1 nd).mp (by rw[h1,h2,e]))
theorem SB.set{st:SortSt}{xs:Array Keyed}(b:SB X κ st)(h:xs.Perm (arrOf st)):SB X κ (setArr st xs):=⟨(Array.perm_iff_toList_perm.mp h).trans b.pm,b.kd,b.fl⟩
variable(C:CW prog w A s X κ lt)
include C
theorem Y4{st:SortSt}{i j:Nat}{Q:Option Bool→SortSt→Prop}(b:SB X κ st)(hi:i<X.length)(hj:j<X.length)(h:Q (some (lt (gg (arrOf st) i) (gg (arrOf st) j))) st):wpS Xx A E s (ltAt' i j) Q st:=by
 rw[ltAt'_eq];refine wpS_bind (wpS_get ?_);show wpS _ _ _ _ (do let x←elem' (arrOf st) i;let y←elem' (arrOf st) j;lt' x y) Q st;exact wpS_bind (eQ (my (by rw[b.size];exact hi)) (wpS_bind (eQ (my (by rw[b.size];exact hj)) (C.ask b.kd (b.mem hi) (b.mem hj) h))))
theorem SB.no{st:SortSt}(b:SB X κ st){i j:Nat}(hi:i<X.length)(hj:j<X.length)(h:i≠j)(e:lt (gg (arrOf st) i) (gg (arrOf st) j)=false):lt (gg (arrOf st) j) (gg (arrOf st) i)=true:=C.no (b.mem hi) (b.mem hj) (b.inj C hi hj h) e
theorem Sw.next{st:SortSt}(b:SB X κ st){lo n:Nat}(h1:1≤n)(hn:lo+n<X.length)(h:Sw lt (arrOf st) lo (lo+n))(e:lt (gg (arrOf st) (lo+n)) (gg (arrOf st) (lo+n-1))=false):Sw lt (arrOf st) lo (lo+(n+1)):=fun i j hi uk hj=>by
 have hl:=b.no C (i:=lo+n) (j:=lo+n-1) hn Xu (by lia) e;by_cases ej:j=lo+n
 ·subst ej;by_cases ei:i=lo+n-1
  ·subst ei;exact hl
  ·exact C.tr _ (b.mem Xu) _ (b.mem Xu) _ (b.mem hn) (h i (lo+n-1) hi Xu (by lia)) hl
 ·exact h i j hi uk Xu
theorem C_{st:SortSt}{lo i n:Nat}{Q:AscSt→SortSt→Prop}(b:SB X κ st)(hn:lo+n≤X.length)(h1:1≤i)(pC:i≤n)(hs:Sw lt (arrOf st) lo (lo+i))(q:∀m,i≤m→m≤n→Sw lt (arrOf st) lo (lo+m)→(m=n∨lt (gg (arrOf st) (lo+m)) (gg (arrOf st) (lo+m-1))=true)→Q (none,m) st):wpS Xx A E s (Nx lo i n) Q st:=by
 unfold Nx;refine wpS_forRange (I:=fun x c aN=>aN=st∧c=(none,x)∧Sw lt (arrOf st) lo (lo+x)) ?_ ?_ ⟨rfl,rfl,hs⟩
 ·rintro x c aN n8 hx ⟨rfl,rfl,oz⟩;refine wpS_bind (Y4 C b (by show lo+x<_;lia) (by show lo+x-1<_;lia) ?_);dsimp only;cases e:lt (gg (arrOf aN) (lo+x)) (gg (arrOf aN) (lo+x-1))with
  |true=>
   rw[if_pos rfl];exact wpS_pure (q x n8 Xu oz (.inr e))
  |false=>
   rw[if_neg Xy];exact wpS_pure ⟨rfl,rfl,Sw.next C b Xu (by lia) oz e⟩
 ·rintro c aN ⟨rfl,rfl,oz⟩;rw[show max i n=n by lia]at oz⊢;exact q n pC (Nat.le_refl _) oz (.inl rfl)
omit C in
theorem YG{xs:Array Keyed}{i j:Nat}(hj:j≤xs.size)(k:Nat):gg (mirror xs i j ((j-i)/2)) k=if i≤k∧k<j then gg xs (i+j-1-k)else gg xs k:=by
 rw[p5,getElem?_mirror_all hj];split<;>rw[p5]
theorem IS{st:SortSt}{lo i n:Nat}{Q:Option Nat→SortSt→Prop}(b:SB X κ st)(hn:lo+n≤X.length)(h1:1≤i)(pC:i≤n)(hs:Dw lt (arrOf st) lo (lo+i))(q:∀m aN,SB X κ aN→pendingOf aN=pendingOf st→(∀t,t<lo→gg (arrOf aN) t=gg (arrOf st) t)→1≤m→m≤n→Sw lt (arrOf aN) lo (lo+m)→Q (some m) aN):wpS Xx A E s (Ny lo i n) Q st:=by
 unfold Ny;refine wpS_bind ?_;rw[reverseSlice'_eq];refine wpS_modify ?_;have hsz:lo+i≤(arrOf st).size:=by rw[b.size];lia
 have b':SB X κ (setArr st (mirror (arrOf st) lo (lo+i) ((lo+i-lo)/2))):=b.set (mirror_perm _ _ _ _);refine wpS_bind (C_ C b' hn h1 pC (fun x y hx XJ hy=>?_) fun m a1 a2 a3 _=>wpS_pure (q m _ b' rfl (fun t ht=>?_) (by lia) a2 a3))
 ·show lt (gg (mirror (arrOf st) lo (lo+i) ((lo+i-lo)/2)) x) (gg (mirror (arrOf st) lo (lo+i) ((lo+i-lo)/2)) y)=true;rw[YG hsz,YG hsz,Xp Xu,Xp Xu];exact hs _ _ Xu (by lia) (by lia)
 ·show gg (mirror (arrOf st) lo (lo+i) ((lo+i-lo)/2)) t=_;rw[YG hsz,Xm Xu]
theorem IU{st:SortSt}{lo i n:Nat}{Q:DescSt→SortSt→Prop}(b:SB X κ st)(hn:lo+n≤X.length)(h1:1≤i)(pC:i≤n)(hs:Dw lt (arrOf st) lo (lo+i))(q:∀m,i≤m→m≤n→Dw lt (arrOf st) lo (lo+m)→Q (none,m,0) st):wpS Xx A E s (PR lo i n) Q st:=by
 unfold PR;refine wpS_forRange (I:=fun x c aN=>aN=st∧c=(none,x,0)∧Dw lt (arrOf st) lo (lo+x)) ?_ ?_ ⟨rfl,rfl,hs⟩
 ·rintro x c aN n8 hx ⟨rfl,rfl,oz⟩;refine wpS_bind (Y4 C b (by show lo+x<_;lia) (by show lo+x-1<_;lia) ?_);dsimp only;cases e:lt (gg (arrOf aN) (lo+x)) (gg (arrOf aN) (lo+x-1))with
  |true=>
   rw[if_pos rfl,Xm Xu];refine wpS_pure ⟨rfl,rfl,fun y z hy Uw hz=>?_⟩;by_cases ez:z=lo+x
   ·subst ez;by_cases ey:y=lo+x-1
    ·subst ey;exact e
    ·exact C.tr _ (b.mem Xu) _ (b.mem Xu) _ (b.mem Xu) e (oz y (lo+x-1) hy Xu (by lia))
   ·exact oz y z hy Uw Xu
  |false=>
   rw[if_neg Xy];have e':=b.no C (i:=lo+x) (j:=lo+x-1) (by lia) (by lia) (by lia) e;refine wpS_bind (Y4 C b Xu (by lia) ?_);rw[e'];dsimp only;rw[if_pos rfl];exact wpS_pure (q x n8 Xu oz)
 ·rintro c aN ⟨rfl,rfl,oz⟩;rw[show max i n=n by lia]at oz⊢;exact q n pC (Nat.le_refl _) oz
theorem LS{st:SortSt}{lo n:Nat}{Q:Option Nat→SortSt→Prop}(b:SB X κ st)(hn:lo+n≤X.length)(h1:1≤n)(q:∀m aN,SB X κ aN→pendingOf aN=pendingOf st→(∀t,t<lo→gg (arrOf aN) t=gg (arrOf st) t)→1≤m→m≤n→Sw lt (arrOf aN) lo (lo+m)→Q (some m) aN):wpS Xx A E s (countRun' lo n) Q st:=by
 rw[IM];refine wpS_bind (C_ C b hn (Nat.le_refl _) h1 (fun i j a b c=>by lia) fun m a1 a2 a3 a4=>?_);dsimp only;by_cases e:(m==n)=true
 ·rw[Xp e];exact wpS_pure (q m st b rfl (fun _ _=>rfl) a1 a2 a3)
 ·rw[Xm e];have e:m≠n:=fun z=>e (beq_iff_eq.mpr z)
  by_cases e2:m>1
  ·rw[Xp e2];refine wpS_bind (Y4 C b Xu (by lia) ?_);rw[a3 lo (lo+m-1) (Nat.le_refl _) (by lia) (by lia)];dsimp only;rw[if_pos rfl];exact wpS_pure (q m st b rfl (fun _ _=>rfl) a1 a2 a3)
  ·rw[Xm e2];have:m=1:=by lia
   subst this;unfold PU;refine wpS_bind (wpS_lift (wpAny_rule ⟨rfl,?_⟩));refine wpS_bind (IU C b hn Xu (by lia) (fun i j hi uk hj=>?_) fun m c1 c2 c3=>?_)
   ·have hi:i=lo:=by lia
    have hj:j=lo+1:=by lia
    subst hi hj;exact a4.resolve_left e
   ·dsimp only;rw[Xm Xu];exact IS C b hn Xu c2 c3 q
omit C in
theorem IV{xs:Array Keyed}{src d:Nat}(hs:src<xs.size)(hd:d≤src)(k:Nat):gg (bubble xs src d) k=if k=src-d then gg xs src else if src-d<k∧k≤src then gg xs (k-1)else gg xs k:=by
 rw[p5,getElem?_bubble hs d hd];by_cases h1:k=src-d
 ·rw[Xp h1,Xp h1,p5]
 ·rw[Xm h1,Xm h1];by_cases h2:src-d<k∧k≤src
  ·rw[Xp h2,Xp h2,p5]
  ·rw[Xm h2,Xm h2,p5]
theorem LU{st:SortSt}{lo n ok:Nat}{Q:Bool→SortSt→Prop}(b:SB X κ st)(hn:lo+n≤X.length)(h1:1≤ok)(bO:ok≤n)(hs:Sw lt (arrOf st) lo (lo+ok))(q:∀aN,SB X κ aN→pendingOf aN=pendingOf st→(∀t,t<lo→gg (arrOf aN) t=gg (arrOf st) t)→Sw lt (arrOf aN) lo (lo+n)→Q true aN):wpS Xx A E s (binarySort' lo n ok) Q st:=by
 rw[IP];refine wpS_bind (wpS_mono (wpS_forRange (I:=fun k c aN=>c=(none,())∧SB X κ aN∧pendingOf aN=pendingOf st∧(∀t,t<lo→gg (arrOf aN) t=gg (arrOf st) t)∧Sw lt (arrOf aN) lo (lo+k)) (Q:=fun c aN=>c=(none,())∧SB X κ aN∧pendingOf aN=pendingOf st∧(∀t,t<lo→gg (arrOf aN) t=gg (arrOf st) t)∧Sw lt (arrOf aN) lo (lo+n)) ?_ ?_ ⟨rfl,b,rfl,fun _ _=>rfl,by rw[show max ok 1=ok by lia];exact hs⟩) ?_)
 ·rintro k c aN GC hk ⟨rfl,b',hp,hf,oz⟩;unfold Rx;refine wpS_bind (wpS_mono (wpS_forRange (I:=fun x c dG=>dG=aN∧∃l r,c=(none,l,r)∧l≤r∧r≤k∧(∀i,i<l→lt (gg (arrOf aN) (lo+i)) (gg (arrOf aN) (lo+k))=true)∧(∀i,r≤i→i<k→lt (gg (arrOf aN) (lo+k)) (gg (arrOf aN) (lo+i))=true)∧r-l+x≤k) (Q:=fun c dG=>dG=aN∧∃l r,c=(none,l,r)∧l≤k∧(∀i,i<l→lt (gg (arrOf aN) (lo+i)) (gg (arrOf aN) (lo+k))=true)∧(∀i,l≤i→i<k→lt (gg (arrOf aN) (lo+k)) (gg (arrOf aN) (lo+i))=true)) ?_ ?_ ⟨rfl,0,k,rfl,by lia,by lia,fun i hi=>by lia,fun i h1 h2=>by lia,by lia⟩) ?_)
  ·rintro x c dG _ hx ⟨rfl,l,r,rfl,a1,a2,a3,a4,a5⟩;dsimp only;by_cases Rz:l≥r
   ·rw[Xp Rz];exact wpS_pure ⟨rfl,l,r,rfl,by lia,a3,fun i h1 h2=>a4 i Xu h2⟩
   ·rw[Xm Rz];refine wpS_bind (Y4 C b' Xu (by lia) ?_);dsimp only;cases e:lt (gg (arrOf dG) (lo+k)) (gg (arrOf dG) (lo+(l+r)/2))with
    |true=>
     rw[if_pos rfl];refine wpS_pure ⟨rfl,l,(l+r)/2,rfl,by lia,by lia,a3,fun i h1 h2=>?_,by lia⟩;by_cases ei:i=(l+r)/2
     ·subst ei;exact e
     ·exact C.tr _ (b'.mem Xu) _ (b'.mem Xu) _ (b'.mem Xu) e (oz (lo+(l+r)/2) (lo+i) (by lia) (by lia) (by lia))
    |false=>
     rw[if_neg Xy];have e':=b'.no C (i:=lo+k) (j:=lo+(l+r)/2) (by lia) (by lia) (by lia) e;refine wpS_pure ⟨rfl,(l+r)/2+1,r,rfl,by lia,a2,fun i h1=>?_,a4,by lia⟩;by_cases ei:i=(l+r)/2
     ·subst ei;exact e'
     ·exact C.tr _ (b'.mem Xu) _ (b'.mem Xu) _ (b'.mem Xu) (oz (lo+i) (lo+(l+r)/2) (by lia) (by lia) (by lia)) e'
  ·rintro c dG ⟨rfl,l,r,rfl,a1,a2,a3,a4,a5⟩;exact⟨rfl,l,r,rfl,by lia,a3,fun i h1 h2=>a4 i Xu h2⟩
  rintro c dG ⟨rfl,l,r,rfl,a1,a2,a3⟩;dsimp only;refine wpS_bind ?_;rw[moveDown'_eq];refine wpS_modify (wpS_pure ?_);have hsz:lo+k<(arrOf dG).size:=by rw[b'.size];lia
  have gb:=fun t=>IV (xs:=arrOf dG) hsz (d:=lo+k-(lo+l)) (by lia) t
  have es:lo+k-(lo+k-(lo+l))=lo+l:=by lia
  rw[es]at gb;refine⟨rfl,b'.set (bubble_perm _ _ _),hp,fun t ht=>?_,fun i j hi uk hj=>?_⟩
  ·show gg (bubble (arrOf dG) (lo+k) (lo+k-(lo+l))) t=_;rw[gb,Xm Xu,Xm Xu];exact hf t ht
  ·show lt (gg (bubble (arrOf dG) (lo+k) (lo+k-(lo+l))) i) (gg (bubble (arrOf dG) (lo+k) (lo+k-(lo+l))) j)=true;rw[gb,gb];have Ux:∀t,lo≤t→t<lo+l→lt (gg (arrOf dG) t) (gg (arrOf dG) (lo+k))=true:=fun t h1 h2=>by have:=a2 (t-lo) (by lia);rw[show lo+(t-lo)=t by lia]at this;exact this
   have Uy:∀t,lo+l≤t→t<lo+k→lt (gg (arrOf dG) (lo+k)) (gg (arrOf dG) t)=true:=fun t h1 h2=>by have:=a3 (t-lo) (by lia) (by lia);rw[show lo+(t-lo)=t by lia]at this;exact this
   by_cases e1:i=lo+l
   ·rw[Xp e1,Xm Xu,Xp Xu];exact Uy _ Xu (by lia)
   ·rw[Xm e1];by_cases e2:lo+l<i∧i≤lo+k
    ·rw[Xp e2,Xm Xu,Xp Xu];exact oz _ _ Xu (by lia) (by lia)
    ·rw[Xm e2];by_cases e3:j=lo+l
     ·rw[Xp e3];exact Ux _ Xu (by lia)
     ·rw[Xm e3];by_cases e4:lo+l<j∧j≤lo+k
      ·rw[Xp e4];exact oz _ _ Xu (by lia) (by lia)
      ·rw[Xm e4];exact oz _ _ Xu (by lia) (by lia)
 ·rintro c aN ⟨rfl,b',hp,hf,oz⟩;rw[show max (max ok 1) n=n by lia]at oz;exact⟨rfl,b',hp,hf,oz⟩
 ·rintro c aN ⟨rfl,b',hp,hf,oz⟩;exact wpS_pure (q aN b' hp hf oz)
end
theorem IW(ys:List Keyed)(j:Nat):∀(k:Nat)(xs:Array Keyed),j+k+ys.length≤xs.size→∀t:Nat,((ys.zipIdx k).foldl (fun c q=>c.setIfInBounds (j+q.2) q.1) xs)[t]?=if j+k≤t∧t<j+k+ys.length then ys[t-(j+k)]? else xs[t]?:=by
 induction ys with
 |nil=>
  intro k xs h t;rw[Xm (fun z=>by have z1:=z.1;have z2:=z.2;simp only[List.length_nil]at z2;lia)];rfl
 |cons y ys ih=>
  intro k xs h t;rw[List.zipIdx_cons,List.foldl_cons,ih (k+1) _ (by simp at h⊢;lia) t];simp only[List.length_cons]at h⊢;by_cases h1:j+(k+1)≤t∧t<j+(k+1)+ys.length
  ·rw[Xp h1,Xp Xu,show t-(j+k)=(t-(j+(k+1)))+1 by lia];rfl
  ·rw[Xm h1,Array.getElem?_setIfInBounds];by_cases h2:j+k=t
   ·subst h2;rw[if_pos rfl,Xp Xu,Xp Xu];simp
   ·rw[Xm h2,Xm Xu]
theorem Dd(ys:List Keyed)(j:Nat)(xs:Array Keyed)(h:j+ys.length≤xs.size):(ys.zipIdx.foldl (fun c q=>c.setIfInBounds (j+q.2) q.1) xs).toList=xs.toList.take j++ys++xs.toList.drop (j+ys.length):=by
 apply List.ext_getElem?;intro t;rw[Array.getElem?_toList,IW ys j 0 xs Xu t,Nat.add_zero];by_cases h1:t<j
 ·rw[Xm Xu,List.append_assoc,List.getElem?_append_left (by simp;lia),List.getElem?_take,Xp h1,Array.getElem?_toList]
 ·by_cases h2:t<j+ys.length
  ·rw[Xp Xu,List.append_assoc,List.getElem?_append_right (by simp;lia),List.getElem?_append_left (by simp;lia)]
   congr 1
   simp
   lia
  ·rw[Xm Xu,List.getElem?_append_right (by simp;lia),List.getElem?_drop,Array.getElem?_toList]
   congr 1
   simp
   lia
section
variable{prog:Program}{w:World}{A:Around}{E:Value→Shared→Prop}{s:Shared}{X:List Keyed}{κ:SortKind}{lt:Keyed→Keyed→Bool}
theorem Sw.pw{xs:Array Keyed}{p m:Nat}(h:Sw lt xs p (p+m)):Pw lt ((xs.toList.drop p).take m):=by
 refine List.pairwise_iff_getElem.mpr ?_;intro i j hi hj uk;have Bz:j<m∧p+j<xs.size:=by simp at hj;lia
 have e1:((xs.toList.drop p).take m)[i]=gg xs (p+i):=by
  have:((xs.toList.drop p).take m)[i]?=some (gg xs (p+i)):=by rw[List.getElem?_take,Xp Xu,List.getElem?_drop,Array.getElem?_toList];exact my Xu
  exact(Xc this).2
 have e2:((xs.toList.drop p).take m)[j]=gg xs (p+j):=by
  have:((xs.toList.drop p).take m)[j]?=some (gg xs (p+j)):=by rw[List.getElem?_take,Xp Xu,List.getElem?_drop,Array.getElem?_toList];exact my Xu
  exact(Xc this).2
 rw[e1,e2];exact h _ _ Xu (by lia) (by lia)
theorem De{xs:Array Keyed}{p m t:Nat}(h:t<m)(hs:p+m≤xs.size):((xs.toList.drop p).take m)[t]?=some (gg xs (p+t)):=by
 rw[List.getElem?_take,Xp h,List.getElem?_drop,Array.getElem?_toList];exact my Xu
variable(C:CW prog w A s X κ lt)
include C
theorem LV{st:SortSt}{i p m v n u:Nat}{Q:Bool→SortSt→Prop}(b:SB X κ st)(e1:(pendingOf st)[i]?=some (p,m,v))(e2:(pendingOf st)[i+1]?=some (p+m,n,u))(hm:1≤m)(hn:1≤n)(hX:p+m+n≤X.length)(s1:Sw lt (arrOf st) p (p+m))(s2:Sw lt (arrOf st) (p+m) (p+m+n))
  (q:∀aN,SB X κ aN→pendingOf aN=((pendingOf st).setIfInBounds i (p,m+n,v)).eraseIdxIfInBounds (i+1)→(∀t,t<p∨p+m+n≤t→gg (arrOf aN) t=gg (arrOf st) t)→Sw lt (arrOf aN) p (p+m+n)→Q true aN):wpS Xx A E s (mergeAt' i) Q st:=by
 rw[IQ];refine wpS_bind (wpS_get ?_);rw[e1,e2];dsimp only;refine wpS_bind (Fe ?_);have hsz:=b.size;refine wpS_bind (eQ (my (xs:=arrOf st) (k:=p+m) (by lia)) ?_);have mem:∀t,t<X.length→gg (arrOf st) t∈X:=fun t h=>b.mem h
 generalize IX:setPending st (((pendingOf st).setIfInBounds i (p,m+n,v)).eraseIdxIfInBounds (i+1))=XH;have XG:arrOf XH=arrOf st:=by rw[←IX]
 have b1:SB X κ XH:=by rw[←IX];exact⟨b.pm,b.kd,b.fl⟩
 have J_:pendingOf XH=((pendingOf st).setIfInBounds i (p,m+n,v)).eraseIdxIfInBounds (i+1):=by rw[←IX]
 refine wpS_bind (qZ C (fun t=>gg (arrOf st) (p+t)) b1.kd (mem _ Xu) (fun t ht=>⟨my Xu,mem _ Xu⟩) (fun x y h1 h2=>s1 _ _ Xu (by lia) (by lia)) (by lia) fun k hk g1 g2=>?_);dsimp only;have LW:∀t,t<k→lt (gg (arrOf st) (p+t)) (gg (arrOf st) (p+m))=true:=fun t ht=>by
  have:=g1 t ht;simp only[mD,Bool.false_eq_true,if_false,Bool.not_eq_true']at this;exact b.no C Xu (by lia) (by lia) this
 have RA:∀t,k≤t→t<m→lt (gg (arrOf st) (p+m)) (gg (arrOf st) (p+t))=true:=fun t h1 h2=>by
  have:=g2 t h1 h2;simp only[mD,Bool.false_eq_true,if_false,Bool.not_eq_false']at this;exact this
 have tr:=fun{x y z:Nat}(hx:x<X.length)(hy:y<X.length)(hz:z<X.length)=>C.tr _ (mem x hx) _ (mem y hy) _ (mem z hz)
 by_cases ek:(m-k==0)=true
 ·rw[Xp ek];have:k=m:=by have:=beq_iff_eq.mp ek;lia
  subst this;refine wpS_pure (q XH b1 J_ (fun _ _=>by rw[XG]) ?_);rw[XG];intro x y hx XJ hy;by_cases h1:y<p+k
  ·exact s1 x y hx XJ h1
  ·by_cases h2:p+k≤x
   ·exact s2 x y h2 XJ hy
   ·have h3:=LW (x-p) (by lia);rw[show p+(x-p)=x by lia]at h3;by_cases h4:y=p+k
    ·rw[h4];exact h3
    ·exact tr Xu (by lia) (by lia) h3 (s2 (p+k) y Xu (by lia) hy)
 rw[Xm ek];have ek:k<m:=by
  have:m-k≠0:=fun z=>ek (beq_iff_eq.mpr z)
  lia
 refine wpS_bind (eQ (my (xs:=arrOf st) (k:=p+k+(m-k)-1) (by lia)) ?_);rw[show p+k+(m-k)-1=p+m-1 by lia];refine wpS_bind (qZ C (fun t=>gg (arrOf st) (p+m+t)) b1.kd (mem _ Xu) (fun t ht=>⟨my Xu,mem _ Xu⟩) (fun x y h1 h2=>s2 _ _ Xu (by lia) (by lia)) (by lia) fun l hl g3 g4=>?_);dsimp only;have PY:∀t,t<l→lt (gg (arrOf st) (p+m+t)) (gg (arrOf st) (p+m-1))=true:=fun t ht=>by
  have:=g3 t ht;simp only[mD,if_true]at this;exact this
 have RB:∀t,l≤t→t<n→lt (gg (arrOf st) (p+m-1)) (gg (arrOf st) (p+m+t))=true:=fun t h1 h2=>by
  have:=g4 t h1 h2;simp only[mD,if_true]at this;exact b.no C Xu (by lia) (by lia) this
 have IB:0<l:=by
  rcases Nat.lt_or_ge 0 l with h|h
  ·exact h
  ·have h1:=RB 0 Xu (by lia);have h2:=RA (m-1) (by lia) (by lia);rw[show p+(m-1)=p+m-1 by lia]at h2;rw[Nat.add_zero]at h1;have:=C.as _ (mem _ Xu) _ (mem _ Xu) h1;rw[h2]at this;cases this
 rw[Xm (by simp;lia)];have ex:((arrOf st).extract (p+k) (p+m)).toList=((arrOf st).toList.drop (p+k)).take (m-k):=by
  simp[Array.toList_extract,List.extract_eq_take_drop]
  congr 1
  lia
 have ey:((arrOf st).extract (p+m) (p+m+l)).toList=((arrOf st).toList.drop (p+m)).take l:=by
  simp[Array.toList_extract,List.extract_eq_take_drop]
 have RD:∀t,t<m-k→(((arrOf st).toList.drop (p+k)).take (m-k))[t]?=some (gg (arrOf st) (p+k+t)):=fun t ht=>De ht Xu
 have RE:∀t,t<l→(((arrOf st).toList.drop (p+m)).take l)[t]?=some (gg (arrOf st) (p+m+t)):=fun t ht=>De ht Xu
 have lx:(((arrOf st).toList.drop (p+k)).take (m-k)).length=m-k:=by simp;lia
 have ly:(((arrOf st).toList.drop (p+m)).take l).length=l:=by simp;lia
 have NB:∀x∈((arrOf st).toList.drop (p+k)).take (m-k),∃t,t<m-k∧x=gg (arrOf st) (p+k+t):=fun x hx=>by
  obtain⟨t,ht⟩:=List.mem_iff_getElem?.mp hx;have iM:=(Xc ht).1;rw[lx]at iM;rw[RD t iM]at ht;exact⟨t,iM,(Xs ht).symm⟩
 have NC:∀x∈((arrOf st).toList.drop (p+m)).take l,∃t,t<l∧x=gg (arrOf st) (p+m+t):=fun x hx=>by
  obtain⟨t,ht⟩:=List.mem_iff_getElem?.mp hx;have iM:=(Xc ht).1;rw[ly]at iM;rw[RE t iM]at ht;exact⟨t,iM,(Xs ht).symm⟩
 have MM:MC X lt ((arrOf st).extract (p+k) (p+m)).toList ((arrOf st).extract (p+m) (p+m+l)).toList:=by
  rw[ex,ey];refine⟨Sw.pw fun x y h1 h2 h3=>s1 x y Xu h2 Xu,Sw.pw fun x y h1 h2 h3=>s2 x y h1 h2 Xu,fun x hx=>?_,fun x hx=>?_,fun x hx y hy=>?_,fun x hx y hy=>?_,fun y hy x hx=>?_⟩
  ·obtain⟨t,ht,rfl⟩:=NB x hx;exact mem _ Xu
  ·obtain⟨t,ht,rfl⟩:=NC x hx;exact mem _ Xu
  ·obtain⟨t,ht,rfl⟩:=NB x hx;obtain⟨u,hu,rfl⟩:=NC y hy;exact b.inj C Xu (by lia) (by lia)
  ·obtain⟨t,ht,rfl⟩:=NB x hx;rw[RE 0 IB]at hy;cases hy;have:=RA (k+t) (by lia) (by lia);rw[←Nat.add_assoc]at this;exact this
  ·obtain⟨t,ht,rfl⟩:=NC y hy;rw[lx,RD _ Xu]at hx;cases hx;rw[show p+k+(m-k-1)=p+m-1 by lia];exact PY t ht
 have fin:∀r dG,Eg XH dG→MG lt ((arrOf st).extract (p+k) (p+m)).toList ((arrOf st).extract (p+m) (p+m+l)).toList r.toList→wpS Xx A E s (do
   modify fun st=>By (p+k) r st
   return (failedOf (←get)).isNone) Q dG:=fun r dG eg mg=>by
  refine wpS_bind (wpS_modify (wpS_bind (wpS_get (wpS_pure ?_))));have J':arrOf dG=arrOf st:=eg.2.1.trans XG;have ND:failedOf dG=none:=eg.2.2.2.trans b1.fl;rw[ex,ey]at mg;have Ka:r.toList.length=m-k+l:=by have:=mg.1.length_eq;rw[List.length_append,lx,ly]at this;exact this
  have el:(arrOf (By (p+k) r dG)).toList=(arrOf st).toList.take (p+k)++r.toList++(arrOf st).toList.drop (p+m+l):=by
   show(r.toList.zipIdx.foldl (fun c q=>c.setIfInBounds (p+k+q.2) q.1) (arrOf dG)).toList=_;rw[Dd _ _ _ (by rw[J',Ka];lia),J',Ka,show p+k+(m-k+l)=p+m+l by lia]
  have Uz:(arrOf st).toList=(arrOf st).toList.take (p+k)++(((arrOf st).toList.drop (p+k)).take (m-k)++((arrOf st).toList.drop (p+m)).take l)++(arrOf st).toList.drop (p+m+l):=by
   have h1:=p4 (arrOf st).toList (p+k) (m-k);have h2:=p4 (arrOf st).toList (p+m) l;rw[show p+k+(m-k)=p+m by lia]at h1
   conv=>lhs;rw[←List.take_append_drop (p+k) (arrOf st).toList,h1,h2]
   simp only[List.append_assoc]
  have PZ:∀t,gg (arrOf (By (p+k) r dG)) t=((arrOf (By (p+k) r dG)).toList[t]?).getD (.none, .none):=fun t=>by rw[p5,Array.getElem?_toList]
  have g0:∀t,gg (arrOf st) t=((arrOf st).toList[t]?).getD (.none, .none):=fun t=>by rw[p5,Array.getElem?_toList]
  have IY:∀t,t<p+k→gg (arrOf (By (p+k) r dG)) t=gg (arrOf st) t:=fun t ht=>by
   rw[PZ,g0,el,List.append_assoc,List.getElem?_append_left (by simp;lia),List.getElem?_take,Xp ht]
  have Df:∀t,p+m+l≤t→gg (arrOf (By (p+k) r dG)) t=gg (arrOf st) t:=fun t ht=>by
   have iM:((arrOf st).toList.take (p+k)++r.toList).length=p+m+l:=by
    rw[List.length_append,Ka,List.length_take,Array.length_toList]
    lia
   rw[PZ,g0,el,List.getElem?_append_right Xu,List.getElem?_drop,iM]
   congr 2
   lia
  have P0:∀t,p+k≤t→t<p+m+l→r.toList[t-(p+k)]?=some (gg (arrOf (By (p+k) r dG)) t):=fun t h1 h2=>by
   rw[PZ,el,List.append_assoc,List.getElem?_append_right (by simp;lia),List.getElem?_append_left (by rw[List.length_take,Array.length_toList];lia)];rw[show(List.take (p+k) (arrOf st).toList).length=p+k by simp;lia];rw[List.getElem?_eq_getElem Xu];rfl
  have cont:∀t,p+k≤t→t<p+m+l→∃u,p+k≤u∧u<p+m+l∧gg (arrOf (By (p+k) r dG)) t=gg (arrOf st) u:=fun t h1 h2=>by
   have:=mg.1.mem_iff.mp (Xj (P0 t h1 h2));rcases List.mem_append.mp this with z|z
   ·obtain⟨u,hu,e⟩:=NB _ z;exact⟨p+k+u,by lia,by lia,e⟩
   ·obtain⟨u,hu,e⟩:=NC _ z;exact⟨p+m+u,by lia,by lia,e⟩
  have hb:SB X κ (By (p+k) r dG):=by
   refine⟨?_,eg.1.trans b1.kd,ND⟩;rw[el];refine List.Perm.trans ?_ b.pm
   conv=>rhs;rw[Uz]
   exact(List.Perm.append_left _ mg.1).append_right _
  have KG:(failedOf (By (p+k) r dG)).isNone=true:=by rw[show failedOf (By (p+k) r dG)=failedOf dG from rfl,ND];rfl
  rw[KG];refine q _ hb (eg.2.2.1.trans J_) (fun t ht=>?_) fun x y hx XJ hy=>?_
  ·rcases ht with ht|ht
   ·exact IY t Xu
   ·exact Df t Xu
  ·
   have A1:∀t u,p≤t→t<p+k→p+k≤u→u<p+m+n→lt (gg (arrOf st) t) (gg (arrOf st) u)=true:=fun t u h1 h2 h3 h4=>by
    by_cases h5:u<p+m
    ·exact s1 t u h1 Xu h5
    ·have h6:=LW (t-p) (by lia);rw[show p+(t-p)=t by lia]at h6;by_cases h7:u=p+m
     ·rw[h7];exact h6
     ·exact tr Xu (by lia) (by lia) h6 (s2 (p+m) u Xu (by lia) h4)
   have A2:∀t u,p+k≤t→t<p+m+l→p+m+l≤u→u<p+m+n→lt (gg (arrOf st) t) (gg (arrOf st) u)=true:=fun t u h1 h2 h3 h4=>by
    by_cases h5:p+m≤t
    ·exact s2 t u h5 Xu h4
    ·have h6:=RB (u-(p+m)) (by lia) (by lia);rw[show p+m+(u-(p+m))=u by lia]at h6;by_cases h7:t=p+m-1
     ·rw[h7];exact h6
     ·exact tr Xu (by lia) (by lia) (s1 t (p+m-1) (by lia) (by lia) (by lia)) h6
   by_cases h1:x<p+k
   ·rw[IY x h1];by_cases h2:y<p+k
    ·rw[IY y h2];exact s1 x y hx XJ Xu
    ·by_cases h3:y<p+m+l
     ·obtain⟨u,u1,u2,u3⟩:=cont y Xu h3;rw[u3];exact A1 x u hx h1 u1 Xu
     ·rw[Df y Xu];exact A1 x y hx h1 Xu hy
   ·by_cases h3:x<p+m+l
    ·by_cases h4:y<p+m+l
     ·exact mg.2.at (i:=x-(p+k)) (j:=y-(p+k)) (by lia) (P0 x Xu h3) (P0 y Xu h4)
     ·rw[Df y Xu];obtain⟨u,u1,u2,u3⟩:=cont x Xu h3;rw[u3];exact A2 u y u1 u2 Xu hy
    ·rw[Df x Xu,Df y Xu];exact s2 x y Xu XJ hy
 have sx:0<((arrOf st).extract (p+k) (p+m)).size:=by simp;lia
 have sy:0<((arrOf st).extract (p+m) (p+m+l)).size:=by simp;lia
 by_cases RF:m-k≤l
 ·rw[Xp RF];exact wpS_bind (IF C MM b1.kd sx sy fin)
 ·rw[Xm RF];exact wpS_bind (IL C MM b1.kd sx sy fin)
end
abbrev Rn:=Nat×Nat×Nat
def Ch:List Rn→Nat→Nat→Prop
 |[],s,e=>s=e
 |q::r,s,e=>q.1=s∧1≤q.2.1∧Ch r (s+q.2.1) e
theorem Ch.all:∀{l:List Rn}{s e:Nat},Ch l s e→s+l.length≤e∧∀q∈l,s≤q.1∧q.1+q.2.1≤e
 |[],s,e,h=>⟨by have:s=e:=h;simp;lia,fun q hq=>by cases hq⟩
 |q::r,s,e,⟨h1,h2,h3⟩=>by
  obtain⟨a1,a2⟩:=Ch.all h3;refine⟨by simp;lia,fun x hx=>?_⟩;rcases List.mem_cons.mp hx with rfl|hx
  ·lia
  ·have:=a2 x hx;lia
theorem Ch.split:∀{l r:List Rn}{s e:Nat},Ch (l++r) s e↔∃m,Ch l s m∧Ch r m e
 |[],r,s,e=>⟨fun h=>⟨s,rfl,h⟩,fun⟨m,h1,h2⟩=>by have:s=m:=h1;rw[this];exact h2⟩
 |q::l,r,s,e=>by
  constructor
  ·rintro⟨h1,h2,h3⟩;obtain⟨m,a1,a2⟩:=Ch.split.mp h3;exact⟨m,⟨h1,h2,a1⟩,a2⟩
  ·rintro⟨m,⟨h1,h2,a1⟩,a2⟩;exact⟨h1,h2,Ch.split.mpr ⟨m,a1,a2⟩⟩
theorem Ch.mod{f:Rn→Rn}(hf:∀q,(f q).1=q.1∧(f q).2.1=q.2.1):∀{l:List Rn}{j s e:Nat},Ch l s e→Ch (l.modify j f) s e
 |[],j,s,e,h=>by simpa using h
 |q::r,0,s,e,h=>by
  rw[List.modify_zero_cons];obtain⟨h1,h2,h3⟩:=h;refine⟨by rw[(hf q).1];exact h1,by rw[(hf q).2];exact h2,by rw[(hf q).2];exact h3⟩
 |q::r,j+1,s,e,h=>by
  rw[List.modify_succ_cons];exact⟨h.1,h.2.1,Ch.mod hf h.2.2⟩
theorem Aa{f:Rn→Rn}:∀{l:List Rn}{j:Nat}{q:Rn},q∈l.modify j f→q∈l∨∃x∈l,q=f x
 |[],j,q,h=>by simp at h
 |x::r,0,q,h=>by
  rw[List.modify_zero_cons]at h;rcases List.mem_cons.mp h with h|h
  ·exact .inr ⟨x,XE,h⟩
  ·exact .inl (List.mem_cons_of_mem _ h)
 |x::r,j+1,q,h=>by
  rw[List.modify_succ_cons]at h;rcases List.mem_cons.mp h with h|h
  ·exact .inl (by rw[h];simp)
  ·rcases Aa h with h|⟨y,h1,h2⟩
   ·exact .inl (List.mem_cons_of_mem _ h)
   ·exact .inr ⟨y,List.mem_cons_of_mem _ h1,h2⟩
structure RI(X:List Keyed)(κ:SortKind)(lt:Keyed→Keyed→Bool)(st:SortSt)(lo n:Nat):Prop where
 b:SB X κ st
 ch:Ch (pendingOf st).toList 0 lo
 sw:∀q∈(pendingOf st).toList,Sw lt (arrOf st) q.1 (q.1+q.2.1)
 tl:Sw lt (arrOf st) lo (lo+n)
section
variable{prog:Program}{w:World}{A:Around}{E:Value→Shared→Prop}{s:Shared}{X:List Keyed}{κ:SortKind}{lt:Keyed→Keyed→Bool}(C:CW prog w A s X κ lt)
include C
theorem GF{st:SortSt}{lo n i:Nat}{Q:Bool→SortSt→Prop}(r:RI X κ lt st lo n)(J3:lo≤X.length)(hi:i+1<(pendingOf st).size)(q:∀aN,RI X κ lt aN lo n→(pendingOf aN).size+1=(pendingOf st).size→Q true aN):wpS Xx A E s (mergeAt' i) Q st:=by
 have hl:(pendingOf st).toList.length=(pendingOf st).size:=XE;obtain⟨P1,x,y,P2,e,el⟩:∃P1 x y P2,(pendingOf st).toList=P1++x::y::P2∧P1.length=i:=by
  refine⟨(pendingOf st).toList.take i,(pendingOf st).toList[i],(pendingOf st).toList[i+1],(pendingOf st).toList.drop (i+2),?_,by simp;lia⟩
  conv=>lhs;rw[←List.take_append_drop i (pendingOf st).toList]
  rw[List.drop_eq_getElem_cons Xu,List.drop_eq_getElem_cons Xu]
 obtain⟨p,m,v⟩:=x;obtain⟨p2,k,u⟩:=y;have ch:=r.ch;rw[e]at ch;obtain⟨mid,c1,c2⟩:=Ch.split.mp ch;obtain⟨d1,d2,d3,d4,d5⟩:=c2;dsimp only at d1 d2 d3 d4 d5;subst d1 d3;have a1:=c1.all;have a2:=d5.all;have i1:(pendingOf st)[i]?=some (p,m,v):=by rw[←Array.getElem?_toList,e,List.getElem?_append_right Xu,el];simp
 have i2:(pendingOf st)[i+1]?=some (p+m,k,u):=by rw[←Array.getElem?_toList,e,List.getElem?_append_right Xu,el];simp
 have w1:=r.sw (p,m,v) (by rw[e];simp);have w2:=r.sw (p+m,k,u) (by rw[e];simp);refine LV C r.b i1 i2 d2 d4 Xu w1 w2 fun aN b' hp IZ Pb=>?_
 have ep:(pendingOf aN).toList=P1++(p,m+k,v)::P2:=by
  rw[hp];simp only[Array.toList_eraseIdxIfInBounds,Array.toList_setIfInBounds];rw[e,List.set_append_right _ _ Xu,el,Nat.sub_self,List.set_cons_zero,List.eraseIdx_append_of_length_le Xu,el,show i+1-i=1 by lia];rfl
 refine q aN ⟨b',?_,fun z hz=>?_,r.tl.congr fun t h1 h2=>IZ t (.inr Xu)⟩ ?_
 ·rw[ep];refine Ch.split.mpr ⟨p,c1,rfl,by show 1≤m+k;lia,?_⟩;show Ch P2 (p+(m+k)) lo;rw[←Nat.add_assoc];exact d5
 ·rw[ep]at hz;rcases List.mem_append.mp hz with hz|hz
  ·have h1:=a1.2 z hz;exact(r.sw z (by rw[e];simp[hz])).congr fun t _ h2=>IZ t (.inl Xu)
  ·rcases List.mem_cons.mp hz with rfl|hz
   ·show Sw lt (arrOf aN) p (p+(m+k));rw[←Nat.add_assoc];exact Pb
   ·have h1:=a2.2 z hz;exact(r.sw z (by rw[e];simp[hz])).congr fun t h2 _=>IZ t (.inr Xu)
 ·have h1:=congrArg List.length ep;have h2:=congrArg List.length e;simp at h1 h2
  lia
theorem I0{st:SortSt}{lo n N w':Nat}{Q:Option Unit×Unit→SortSt→Prop}(r:RI X κ lt st lo n)(J3:lo≤X.length)(q:∀aN,RI X κ lt aN lo n→Q (none,()) aN):wpS Xx A E s (PV N w') Q st:=by
 unfold PV;refine wpS_forRange (I:=fun _ c aN=>c=(none,())∧RI X κ lt aN lo n) ?_ (fun c aN h=>by rw[h.1];exact q aN h.2) ⟨rfl,r⟩;rintro x c aN _ _ ⟨rfl,r'⟩;refine wpS_bind (wpS_get ?_);by_cases hs:(pendingOf aN).size>1
 ·rw[Xp hs];have e:(pendingOf aN)[(pendingOf aN).size-2]?=some (pendingOf aN)[(pendingOf aN).size-2]:=XE;rw[e];generalize (pendingOf aN)[(pendingOf aN).size-2]=z;obtain⟨z1,z2,z3⟩:=z;dsimp only;split
  ·exact wpS_pure (q aN r')
  ·refine wpS_bind (GF C r' J3 Xu fun dG r2 _=>?_);rw[if_neg Xy];exact wpS_pure ⟨rfl,r2⟩
 ·rw[Xm hs];exact wpS_pure (q aN r')
theorem Dg{st:SortSt}{lo n N:Nat}{Q:ForInStep (Option Unit×Nat)→SortSt→Prop}(r:RI X κ lt st lo n)(h1:1≤n)(J3:lo+n≤X.length)(q:∀aN,RI X κ lt aN (lo+n) 0→Q (.yield (none,lo+n)) aN):wpS Xx A E s (NA N lo n) Q st:=by
 have push:∀aN,RI X κ lt aN lo n→RI X κ lt (Nz lo n aN) (lo+n) 0:=fun aN r'=>by
  have ep:(pendingOf (Nz lo n aN)).toList=(pendingOf aN).toList++[(lo,n,0)]:=by
   show((pendingOf aN).push (lo,n,0)).toList=_;simp
  refine⟨⟨r'.b.pm,r'.b.kd,r'.b.fl⟩,?_,fun z hz=>?_,fun i j a b c=>by lia⟩
  ·rw[ep];exact Ch.split.mpr ⟨lo,r'.ch,rfl,h1,rfl⟩
  ·rw[ep]at hz;rcases List.mem_append.mp hz with hz|hz
   ·exact r'.sw z hz
   ·have:z=(lo,n,0):=by simpa using hz
    subst this;exact r'.tl
 unfold NA;refine wpS_bind (wpS_get ?_);cases e:(pendingOf st).back? with
 |none=>exact wpS_bind (wpS_modify (wpS_pure (q _ (push _ r))))
 |some z=>
  obtain⟨z1,z2,z3⟩:=z;dsimp only;refine wpS_bind (I0 C r Xu fun dG r2=>?_);dsimp only;refine wpS_bind (wpS_modify (wpS_bind (wpS_modify (wpS_pure (q _ (push _ ?_))))));have ep:(pendingOf (Ry (power' N (2*z1+z2) (2*z1+z2+z2+n) N) dG)).toList=(pendingOf dG).toList.modify ((pendingOf dG).size-1) fun(p,l,_)=>(p,l,power' N (2*z1+z2) (2*z1+z2+z2+n) N):=by
   show((pendingOf dG).modify _ _).toList=_;simp
  refine⟨⟨r2.b.pm,r2.b.kd,r2.b.fl⟩,?_,fun z hz=>?_,r2.tl⟩
  ·rw[ep];refine Ch.mod ?_ r2.ch;exact fun _=>⟨rfl,rfl⟩
  ·rw[ep]at hz;rcases Aa hz with hz|⟨x,h1,h2⟩
   ·exact r2.sw z hz
   ·rw[h2];exact r2.sw x h1
theorem I_{st:SortSt}{N:Nat}{Q:Option Unit×Unit→SortSt→Prop}(hN:N=X.length)(h0:0<N)(r:RI X κ lt st N 0)(q:∀aN,SB X κ aN→Sw lt (arrOf aN) 0 N→Q (none,()) aN):wpS Xx A E s (PX N) Q st:=by
 have one:∀aN,RI X κ lt aN N 0→(pendingOf aN).size≤1→Q (none,()) aN:=fun aN r' hs=>by
  have ch:=r'.ch;have sw:=r'.sw;cases e:(pendingOf aN).toList with
  |nil=>rw[e]at ch;have:0=N:=ch;lia
  |cons x l=>
   have hl:l=[]:=by
    have:=congrArg List.length e;simp at this;exact List.length_eq_zero_iff.mp Xu
   subst hl;rw[e]at ch sw;obtain⟨c1,c2,c3⟩:=ch;have c3:0+x.2.1=N:=c3;have:=sw x Xy;rw[c1,c3]at this;exact q aN r'.b this
 unfold PX;refine wpS_forRange (I:=fun x c aN=>c=(none,())∧RI X κ lt aN N 0∧((pendingOf aN).size+x≤N∨(pendingOf aN).size≤1)) ?_ ?_ ⟨rfl,r, .inl ?_⟩
 ·rintro x c aN _ hx ⟨rfl,r',hs⟩;refine wpS_bind (wpS_get ?_);by_cases h1:(pendingOf aN).size≤1
  ·rw[Xp h1];exact wpS_pure (one aN r' h1)
  ·rw[Xm h1];refine wpS_bind (GF C r' Xu ?_ fun dG r2 HC=>?_)
   ·have key:∀c:Bool,(if c=true then(pendingOf aN).size-2-1 else(pendingOf aN).size-2)+1<(pendingOf aN).size:=fun c=>by cases c<;>simp<;>lia
    exact key _
   ·rw[if_neg Xy];exact wpS_pure ⟨rfl,r2,by lia⟩
 ·rintro c aN ⟨rfl,r',hs⟩;exact one aN r' (by rcases hs with hs|hs<;>lia)
 ·have:=r.ch.all.1;simp at this
  lia
theorem Ja{st:SortSt}{Q:Unit→SortSt→Prop}(h0:0<X.length)(b:SB X κ st)(hp:pendingOf st=#[])(q:∀aN,SB X κ aN→Sw lt (arrOf aN) 0 X.length→Q () aN):wpS Xx A E s sortRuns' Q st:=by
 rw[Fb];refine wpS_bind (wpS_get ?_);rw[b.size];refine wpS_bind (wpS_mono (wpS_forRange (I:=fun x c aN=>∃lo,c=(none,lo)∧RI X κ lt aN lo 0∧lo≤X.length∧x≤lo) (Q:=fun c aN=>c.1=none∧RI X κ lt aN X.length 0) ?_ ?_ ⟨0,rfl,⟨b,by rw[hp];rfl,(fun q hq=>by rw[hp]at hq;cases hq),fun i j a b c=>by lia⟩,by lia,by lia⟩) ?_)
 ·rintro x c aN _ hx ⟨lo,rfl,r,J3,P6⟩;dsimp only;by_cases h1:lo≥X.length
  ·rw[Xp h1];have:lo=X.length:=by lia
   subst this;exact wpS_pure ⟨rfl,r⟩
  ·rw[Xm h1];refine wpS_bind (LS C r.b Xu (by lia) fun m dG b2 AK ND m1 m2 NG=>?_);dsimp only;have r2:RI X κ lt dG lo m:=⟨b2,by rw[AK];exact r.ch,fun z hz=>by
    rw[AK]at hz;have:=r.ch.all.2 z hz;exact(r.sw z hz).congr fun t _ h2=>ND t Xu,NG⟩
   by_cases h2:m<minRun' X.length X.length 0
   ·rw[Xp h2];refine wpS_bind (wpS_lift (wpAny_rule ⟨rfl,?_⟩));refine wpS_bind (LU C b2 (n:=min (X.length-lo) (minRun' X.length X.length 0)) (by lia) m1 Xu NG fun BN b3 RG UA UB=>?_);rw[if_neg Xy];refine Dg C ⟨b3,by rw[RG,AK];exact r.ch,fun z hz=>?_,UB⟩ Xu (by lia) fun Nj r4=>⟨_,rfl,r4,by lia,by lia⟩
    rw[RG]at hz;have:=r2.ch.all.2 z hz;exact(r2.sw z hz).congr fun t _ h2=>UA t Xu
   ·rw[Xm h2];exact Dg C r2 m1 Xu fun Nj r4=>⟨_,rfl,r4,by lia,by lia⟩
 ·rintro c aN ⟨lo,rfl,r,J3,P6⟩;have:lo=X.length:=by lia
  subst this;exact⟨rfl,r⟩
 ·rintro⟨c1,c2⟩ aN ⟨e,r⟩;dsimp only at e⊢;subst e;exact wpS_bind (I_ C rfl h0 r fun dG b2 NG=>wpS_pure (q dG b2 NG))
end
open Classical in
noncomputable def Dh(X:List Keyed)(x:Keyed):Nat:=if h:∃i:Nat,X[i]?=some x then Classical.choose h else 0
theorem oP{X:List Keyed}{x:Keyed}(h:x∈X):X[Dh X x]?=some x:=by
 have h':∃i:Nat,X[i]?=some x:=List.mem_iff_getElem?.mp h;unfold Dh;rw[dif_pos h'];exact Classical.choose_spec h'
theorem Jb{X:List Keyed}(nd:X.Nodup){i:Nat}{x:Keyed}(h:X[i]?=some x):Dh X x=i:=by
 have:=oP (Xj h);exact(List.getElem?_inj (Xc this).1 nd).mp (this.trans h.symm)
theorem oQ{X:List Keyed}{x:Keyed}(h:x∈X):Dh X x<X.length:=(Xc (oP h)).1
section
variable{prog:Program}{w:World}{A:Around}{E:Value→Shared→Prop}{s:Shared}{X:List Keyed}{κ:SortKind}{lt:Nat→Nat→Bool}
theorem Ff{st:SortSt}{Q:Unit→SortSt→Prop}(nd:X.Nodup)(h0:0<X.length)(L:Y' X.length lt)(ha:(arrOf st).toList=X)(hk:kindOf st=κ)(hp:pendingOf st=#[])(hf:failedOf st=none)
  (hc:∀i j x y,X[i]?=some x→X[j]?=some y→∀C:Bool→Shared→Prop,C (lt i j) s→wpAny Xx A (keyLt' κ x.1 y.1) C (fun _ _=>False) s)
  (q:∀p aN,wV X.length p→Sd lt p X.length→(arrOf aN).toList=p.toList.map (fun i=>X.getD i (.none, .none))→failedOf aN=none→Q () aN):wpS Xx A E s sortRuns' Q st:=by
 have C:CW prog w A s X κ fun x y=>lt (Dh X x) (Dh X y):=by
  refine⟨fun x hx y hy=>hc _ _ x y (oP hx) (oP hy),fun x hx y hy z hz=>L.tr _ _ _ (oQ hx) (oQ hy) (oQ hz),fun x hx y hy=>L.as _ _ (oQ hx) (oQ hy),fun x hx y hy hn=>L.Px _ _ (oQ hx) (oQ hy) fun e=>hn ?_,nd⟩;have h1:=oP hx;rw[e,oP hy]at h1;exact(Xs h1).symm
 refine Ja C h0 ⟨by rw[ha],hk,hf⟩ hp fun aN b sw=>?_
 have mem:∀x∈(arrOf aN).toList,x∈X:=fun x hx=>b.pm.mem_iff.mp hx
 refine q ((arrOf aN).map (Dh X)) aN ?_ (fun i j uk hj=>?_) ?_ b.fl
 ·unfold wV;rw[Array.toList_map];have h1:=b.pm.map (Dh X);have h2:X.map (Dh X)=List.range X.length:=by
   apply List.ext_getElem
   ·simp
   ·intro i h1 h2;simp only[List.getElem_map,List.getElem_range];exact Jb nd (by simp at h1;simp[h1])
  rw[h2]at h1;exact h1
 ·have:=sw i j (Nat.zero_le _) uk hj;have g:∀k,k<X.length→gd ((arrOf aN).map (Dh X)) k=Dh X (gg (arrOf aN) k):=fun k hk=>by
   have CH:k<(arrOf aN).size:=by rw[b.size];exact hk
   rw[CV,p5];simp[CH]
  rw[g i Xu,g j hj];exact this
 ·rw[Array.toList_map,List.map_map]
  conv=>lhs;rw[←List.map_id (arrOf aN).toList]
  apply List.map_congr_left;intro x hx;have:=oP (mem x hx);simp[List.getD_eq_getElem?_getD,this]
theorem Ab{ks vs:List Value}(hl:ks.length=vs.length)(h0:0<vs.length)(L:Y' vs.length lt)(nd:ks.Nodup)
  (hc:∀i j,i<vs.length→j<vs.length→∀C:Bool→Shared→Prop,C (lt i j) s→wpAny Xx A (keyLt' κ (ks.getD i .none) (ks.getD j .none)) C (fun _ _=>False) s):
  wpAny Xx A ((sortRuns').run (SortSt.mk' κ (ks.toArray.zip vs.toArray) #[] 7 none)) (fun r s'=>∃p:Array Nat,s'=s∧wV vs.length p∧Sd lt p vs.length∧arrOf r.2=p.map (kas_item (ks.toArray.zip vs.toArray))∧failedOf r.2=none) E s:=by
 have hz:(ks.zip vs).length=vs.length:=by rw[List.length_zip];lia
 have ea:(ks.toArray.zip vs.toArray).toList=ks.zip vs:=XE;have UC:(ks.zip vs).Nodup:=by
  refine List.pairwise_iff_getElem.mpr fun i j hi hj uk e=>?_
  rw[List.getElem_zip,List.getElem_zip]at e;have:=(List.getElem_inj nd).mp (Prod.mk.inj e).1
  lia
 have run:=Ff (prog:=prog) (w:=w) (A:=A) (E:=E) (s:=s) (X:=ks.zip vs) (κ:=κ) (lt:=lt) (st:=SortSt.mk' κ (ks.toArray.zip vs.toArray) #[] 7 none) (Q:=fun _ aN=>∃p:Array Nat,wV vs.length p∧Sd lt p vs.length∧arrOf aN=p.map (kas_item (ks.toArray.zip vs.toArray))∧failedOf aN=none) UC Xu (by rw[hz];exact L) ea rfl rfl rfl (fun i j x y hx hy C h=>?_) fun p aN h1 h2 h3 h4=>⟨p,by rw[←hz];exact h1,by rw[←hz];exact h2,?_,h4⟩
 ·unfold wpS at run;refine wpAny_mono run (fun r s' ⟨h1,p,h2⟩=>⟨p,h1,h2⟩) fun _ _ e=>e
 ·obtain⟨x1,x2⟩:=x;obtain⟨y1,y2⟩:=y;have hi:=(Xc hx).1;have hj:=(Xc hy).1;rw[hz]at hi hj;obtain⟨e1,_⟩:=List.getElem?_zip_eq_some.mp hx;obtain⟨e2,_⟩:=List.getElem?_zip_eq_some.mp hy;have:=hc i j hi hj C h;simpa[List.getD_eq_getElem?_getD,e1,e2]using this
 ·apply Array.toList_inj.mp;rw[h3,Array.toList_map];apply List.map_congr_left;intro i _;unfold kas_item;rw[Array.getD_eq_getD_getElem?,←Array.getElem?_toList,ea,List.getD_eq_getElem?_getD]
end
def Kp(a:Addr)(h h':Heap):Prop:=∀b o,b≠a→h.get? b=some o→h'.get? b=some o
section
variable{prog:Program}{w:World}{A:Around}{E:Value→Shared→Prop}{s:Shared}
theorem A_{a:Addr}{vs:List Value}{n:Nat}{κ:SortKind}{lt:Nat→Nat→Bool}{P:PySem.Fin→Shared→Prop}(ho:s.heap.get? a=some (seqObj "list" vs.toArray n))(h2:2≤vs.length)(Di:vs.length<10000)(LX:vs.Nodup)(L:Y' vs.length lt)
  (hk:∀s',Kp a s.heap s'.heap→∀Q':SortKind→Shared→Prop,Q' κ s'→wpAny Xx A (keyKind' vs.toArray) Q' (fun _ _=>False) s')
  (hc:∀i j,i<vs.length→j<vs.length→∀s',Kp a s.heap s'.heap→∀C:Bool→Shared→Prop,C (lt i j) s'→wpAny Xx A (keyLt' κ (vs.getD i .none) (vs.getD j .none)) C (fun _ _=>False) s')
  (h:∀p h' c,wV vs.length p→Sd lt p vs.length→Kp a s.heap h'→h'.get? a=some (seqObj "list" (List.toArray (p.toList.map fun i=>vs.getD i Value.none)) c)→P (.done (.ret .none)) {s with heap:=h'}):
  wpAny Xx A (Builtin.«list.sort» ⟨[.ref a],[]⟩) P E s:=by
 have s1:=Heap.SameBut.update s.heap a (Obj.mapSeq fun _=>(#[]:Array Value));obtain⟨e1,Fg⟩:∃e1,(s.heap.update a (Obj.mapSeq fun _=>(#[]:Array Value))).get? a=some (seqObj "list" #[] e1):=⟨_,get?_update_seq ho fun _=>#[]⟩
 rw[list_sort_plain];refine wpAny_bind (listItems_at ho rfl (wpAny_bind (listUpdate_at ho rfl ?_ (by rw[List.size_toArray,sizeLine_eq];omega) (Nat.zero_le _))));refine wpAny_bind (seqEpoch_at Fg rfl (wpAny_bind (wpAny_newTuple (wpAny_bind (wpAny_newList (wpAny_holding ?_) (Nat.zero_le _))) (by show vs.length≤_;rw[sizeLine_eq];omega))));generalize hh:(((s.heap.update a (Obj.mapSeq fun _=>(#[]:Array Value))).push {cls:= .type "tuple",data:= .seq vs.toArray 0}).push {cls:= .type "list",data:= .seq #[] 0})=h3;have k3:Kp a s.heap h3:=fun b o hb e=>by
  rw[←hh];exact Xo (Xo ((s1.2 b hb).trans e))
 have Jc:h3.get? a=some (seqObj "list" #[] e1):=by
  rw[←hh];exact Xo (Xo Fg)
 show wpAny Xx A _ P E {s with heap:=h3};dsimp only;have wQ:¬vs.toArray.size<2:=by rw[List.size_toArray];omega
 rw[Xm wQ,Xm wQ];refine wpAny_bind (wpAny_mono (hk {s with heap:=h3} k3 (fun NH s'=>NH=κ∧s'={s with heap:=h3}) ⟨rfl,rfl⟩) ?_ fun _ _ x=>x.elim);rintro _ _ ⟨rfl,rfl⟩;refine wpAny_bind (wpAny_mono (Ab (lt:=lt) rfl (XB) L LX fun i j hi hj C hC=>hc i j hi hj {s with heap:=h3} k3 C hC) ?_ fun _ _ e=>e);rintro⟨⟨⟩,aN⟩ s' ⟨p,rfl,hp,hs,P7,hf⟩;dsimp only;rw[kat_snds rfl P7];have hsz:(List.toArray (p.toList.map fun i=>vs.getD i Value.none)).size=vs.length:=by rw[List.size_toArray,List.length_map,Array.length_toList,hp.size]
 have s2:=Heap.SameBut.update h3 a (Obj.mapSeq fun _=>List.toArray (p.toList.map fun i=>vs.getD i Value.none));obtain⟨c2,vR⟩:∃c2,(h3.update a (Obj.mapSeq fun _=>List.toArray (p.toList.map fun i=>vs.getD i Value.none))).get? a=some (seqObj "list" (List.toArray (p.toList.map fun i=>vs.getD i Value.none)) c2):=⟨_,get?_update_seq Jc fun _=>List.toArray (p.toList.map fun i=>vs.getD i Value.none)⟩
 refine wpAny_bind (seqEpoch_at (s:={s with heap:=h3}) Jc rfl (wpAny_bind (listUpdate_at (s:={s with heap:=h3}) Jc rfl ?_ (Nat.zero_le _) (Nat.le_trans (Nat.le_of_eq hsz) (by rw[sizeLine_eq];omega)))));rw[hf];simp only[bne_self_eq_false,Bool.false_eq_true,if_false];exact wpAny_pure (h p _ c2 hp hs (fun b o hb e=>(s2.2 b hb).trans (k3 b o hb e)) vR)
theorem Zb{a:Addr}{vs:List Value}{n:Nat}{P:PySem.Fin→Shared→Prop}(ho:s.heap.get? a=some (seqObj "list" vs.toArray n))(h2:vs.length<2)
  (h:∀h' c,Kp a s.heap h'→h'.get? a=some (seqObj "list" vs.toArray c)→P (.done (.ret .none)) {s with heap:=h'}):
  wpAny Xx A (Builtin.«list.sort» ⟨[.ref a],[]⟩) P E s:=by
 have s1:=Heap.SameBut.update s.heap a (Obj.mapSeq fun _=>(#[]:Array Value));obtain⟨e1,Fg⟩:∃e1,(s.heap.update a (Obj.mapSeq fun _=>(#[]:Array Value))).get? a=some (seqObj "list" #[] e1):=⟨_,get?_update_seq ho fun _=>#[]⟩
 rw[list_sort_plain];refine wpAny_bind (listItems_at ho rfl (wpAny_bind (listUpdate_at ho rfl ?_ (by rw[List.size_toArray,sizeLine_eq];omega) (Nat.zero_le _))));refine wpAny_bind (seqEpoch_at Fg rfl (wpAny_bind (wpAny_newTuple (wpAny_bind (wpAny_newList (wpAny_holding ?_) (Nat.zero_le _))) (by show vs.length≤_;rw[sizeLine_eq];omega))));generalize hh:(((s.heap.update a (Obj.mapSeq fun _=>(#[]:Array Value))).push {cls:= .type "tuple",data:= .seq vs.toArray 0}).push {cls:= .type "list",data:= .seq #[] 0})=h3;have k3:Kp a s.heap h3:=fun b o hb e=>by
  rw[←hh];exact Xo (Xo ((s1.2 b hb).trans e))
 have Jc:h3.get? a=some (seqObj "list" #[] e1):=by
  rw[←hh];exact Xo (Xo Fg)
 show wpAny Xx A _ P E {s with heap:=h3};dsimp only;have wQ:vs.toArray.size<2:=by rw[List.size_toArray];omega
 rw[Xp wQ,Xp wQ];refine wpAny_bind (wpAny_pure (wpAny_bind (wpAny_pure ?_)));dsimp only;have P8:(arrOf (SortSt.mk' general' (vs.toArray.zip vs.toArray) #[] 7 none)).map (·.2)=vs.toArray:=by
  show(vs.toArray.zip vs.toArray).map (·.2)=vs.toArray;apply Array.toList_inj.mp;rw[Array.toList_map,Array.toList_zip];exact List.map_snd_zip (Nat.le_refl _)
 have s2:=Heap.SameBut.update h3 a (Obj.mapSeq fun _=>vs.toArray);obtain⟨c2,vR⟩:∃c2,(h3.update a (Obj.mapSeq fun _=>vs.toArray)).get? a=some (seqObj "list" vs.toArray c2):=⟨_,get?_update_seq Jc fun _=>vs.toArray⟩
 rw[P8];refine wpAny_bind (seqEpoch_at (s:={s with heap:=h3}) Jc rfl (wpAny_bind (listUpdate_at (s:={s with heap:=h3}) Jc rfl ?_ (Nat.zero_le _) (by rw[List.size_toArray,sizeLine_eq];omega))));simp only[bne_self_eq_false,Bool.false_eq_true,if_false];exact wpAny_pure (h _ c2 (fun b o hb e=>(s2.2 b hb).trans (k3 b o hb e)) vR)
theorem ZX{l:Addr}{vs:List Value}{κ:SortKind}{lt:Nat→Nat→Bool}{Q:Value→Shared→Prop}(hl:s.heap.IsList l vs.toArray)(Di:vs.length<10000)(LX:vs.Nodup)(L:Y' vs.length lt)
  (hk:2≤vs.length→∀s',(∀b o,s.heap.get? b=some o→s'.heap.get? b=some o)→∀Q':SortKind→Shared→Prop,Q' κ s'→wpAny Xx A.in1.in1 (keyKind' vs.toArray) Q' (fun _ _=>False) s')
  (hc:∀i j,i<vs.length→j<vs.length→∀s',(∀b o,s.heap.get? b=some o→s'.heap.get? b=some o)→∀C:Bool→Shared→Prop,C (lt i j) s'→wpAny Xx A.in1.in1 (keyLt' κ (vs.getD i .none) (vs.getD j .none)) C (fun _ _=>False) s')
  (h:∀p h' D c,wV vs.length p→Sd lt p vs.length→(∀b o,s.heap.get? b=some o→h'.get? b=some o)→s.heap.objs.size≤D→h'.get? D=some (seqObj "list" (List.toArray (p.toList.map fun i=>vs.getD i Value.none)) c)→Q (.ref D) {s with heap:=h'}):
  wpAny Xx A (call (.builtin "sorted") [.ref l]) Q E s:=by
 refine Calls.call_function_entry kind_sorted plain_sorted entry_sorted (args_sorted1 _) ?_;unfold Builtin.«sorted»;refine wpAny_bind (m:=checkCount "sorted" 1 1 _) (wpAny_pure (wpAny_bind (collect_list hl (wpAny_bind (wpAny_newList ?_ (by rw[sizeLine_eq];omega))) (by rw[sizeLine_eq];omega))));generalize hh:((s.heap.push (seqObj "list" #[] 0)).update s.heap.objs.size (Obj.mapSeq (·++vs.toArray)))=h1;have hsz:h1.objs.size=s.heap.objs.size+1:=by rw[←hh,Heap.size_update,size_push']
 have keep:∀b o,s.heap.get? b=some o→(h1.push (seqObj "list" vs.toArray 0)).get? b=some o:=fun b o q=>by
  have iM:b<s.heap.objs.size:=Heap.lt_size q;rw[Heap.get?_push_ne _ _ _ (by rw[hsz];exact Nat.ne_of_lt (Nat.lt_succ_of_lt iM)),←hh,Heap.get?_update_ne _ _ _ _ (Nat.ne_of_lt iM),Heap.get?_push_ne _ _ _ (Nat.ne_of_lt iM)];exact q
 have FY:(h1.push (seqObj "list" vs.toArray 0)).get? h1.objs.size=some (seqObj "list" vs.toArray 0):=Heap.get?_push_size _ rfl;have GG:∀h',Kp h1.objs.size (h1.push (seqObj "list" vs.toArray 0)) h'→∀b o,s.heap.get? b=some o→h'.get? b=some o:=fun h' k b o q=>k b o (by have:=Heap.lt_size q;rw[hsz];exact Nat.ne_of_lt (Nat.lt_succ_of_lt this)) (keep b o q)
 show wpAny _ _ _ _ _ {s with heap:=h1.push (seqObj "list" vs.toArray 0)};refine wpAny_bind (wpAny_holding (wpAny_call_entry slot_list_sort ⟨_,FY,rfl⟩ entry_list_sort ?_ (args_list_sort _)));by_cases h2:2≤vs.length
 ·refine A_ (s:={s with heap:=h1.push (seqObj "list" vs.toArray 0)}) (lt:=lt) FY h2 Di LX L (fun s' k Q' q=>hk h2 s' (GG _ k) Q' q) (fun i j hi hj s' k C q=>hc i j hi hj s' (GG _ k) C q) fun p h' c hp hs k e=>?_
  exact⟨_,rfl,wpAny_pure ⟨_,rfl,h p h' _ c hp hs (GG _ k) (by rw[show({s with heap:=h1}:Shared).heap.objs.size=h1.objs.size from rfl,hsz];exact Nat.le_succ _) e⟩⟩
 ·refine Zb (s:={s with heap:=h1.push (seqObj "list" vs.toArray 0)}) FY Xz fun h' c k e=>?_
  have hp:wV vs.length (List.toArray (List.range vs.length)):=by unfold wV;simp
  refine⟨_,rfl,wpAny_pure ⟨_,rfl,h _ h' _ c hp (fun i j uk hj=>XB) (GG _ k) (by rw[show({s with heap:=h1}:Shared).heap.objs.size=h1.objs.size from rfl,hsz];exact Nat.le_succ _) ?_⟩⟩;rw[e]
  congr 2
  match vs,h2 with
  |[],_=>rfl
  |[x],_=>rfl
  |x::y::r,h=>simp at h
end
def iE(p q:Int×Int):Bool:=if p.1=q.1 then decide (p.2<q.2)else decide (p.1<q.1)
theorem Dj{p q r:Int×Int}(a:iE p q=true)(b:iE q r=true):iE p r=true:=by
 unfold iE at*;split at a<;>split at b<;>split<;>simp_all<;>omega
theorem Dk{p q:Int×Int}(a:iE p q=true):iE q p=false:=by
 unfold iE at*;split at a<;>split<;>simp_all<;>omega
theorem Ac{p q:Int×Int}(h:p≠q):iE p q=true∨iE q p=true:=by
 unfold iE;by_cases e:p.1=q.1
 ·have:p.2≠q.2:=fun z=>h (Prod.ext e z)
  simp[e];omega
 ·have e':¬q.1=p.1:=fun z=>e z.symm
  simp[e,e'];omega
section
variable{prog:Program}{w:World}{A:Around}{E:Value→Shared→Prop}{s:Shared}
def oR(h:Heap)(x:Addr)(p:Int×Int):Prop:=∃o t u n,h.get? x=some o∧o.cls= .type "tuple"∧o.data= .seq #[.int p.1 t, .int p.2 u] n
theorem Fh{x y:Addr}{p q:Int×Int}{C:Bool→Shared→Prop}(hx:oR s.heap x p)(hy:oR s.heap y q)(h:C (iE p q) s):wpAny Xx A (keyLt' (tuples' true) (.ref x) (.ref y)) C E s:=by
 obtain⟨ox,t,u,n,h1,h2,h3⟩:=hx;obtain⟨oy,t',u',n',g1,g2,g3⟩:=hy;refine kat_lt h1 h3 g1 g3 (kat_cons ?_);have e0:SeqAt.EqAt A s (.int p.1 t) (.int q.1 t') (vL (.int p.1) (.int q.1)):=vM ⟨t,rfl⟩ ⟨t',rfl⟩ rfl rfl;have e1:SeqAt.EqAt A s (.int p.2 u) (.int q.2 u') (vL (.int p.2) (.int q.2)):=vM ⟨u,rfl⟩ ⟨u',rfl⟩ rfl rfl;refine e0 _ _ _ _ ?_;by_cases a:p.1=q.1
 ·have:vL (.int p.1) (.int q.1)=true:=by simp[vL,a]
  rw[this];refine kat_yes (kat_cons (e1 _ _ _ _ ?_));by_cases b:p.2=q.2
  ·have:vL (.int p.2) (.int q.2)=true:=by simp[vL,b]
   rw[this];refine kat_yes (kat_nil ?_);have:iE p q=decide (#[Value.int p.1 t, .int p.2 u].size<#[Value.int q.1 t', .int q.2 u'].size):=by simp[iE,a,b]
   rw[this]at h;exact h
  ·have:vL (.int p.2) (.int q.2)=false:=by simp[vL,b]
   rw[this];refine kat_no (kat_one _ _ (lt_int ?_));have:iE p q=decide (p.2<q.2):=by simp[iE,a]
   rw[this]at h;exact h
 ·have:vL (.int p.1) (.int q.1)=false:=by simp[vL,a]
  rw[this];refine kat_no (oneLt_int ?_);have:iE p q=decide (p.1<q.1):=by simp[iE,a]
  rw[this]at h;exact h
theorem vj{h:Heap}:∀{its:List Value},(∀v∈its,∃x p,v= .ref x∧oR h x p)→∃fs,KatTups h its fs∧fs.length=its.length∧∀f∈fs,∃i t,f=Value.int i t
 |[],_=>⟨[], .nil,rfl,fun f hf=>by cases hf⟩
 |v::r,hv=>by
  obtain⟨x,p,rfl,o,t,u,n,h1,h2,h3⟩:=hv v (List.mem_cons_self ..);obtain⟨fs,k1,k2,k3⟩:=vj (its:=r) fun v K1=>hv v (List.mem_cons_of_mem _ K1)
  refine⟨.int p.1 t::fs, .cons h1 h2 h3 rfl k1,by simp[k2],fun f hf=>?_⟩;rcases List.mem_cons.mp hf with rfl|hf
  ·exact⟨_,_,rfl⟩
  ·exact k3 f hf
theorem Ba{its:List Value}{Q:SortKind→Shared→Prop}(f9:0<its.length)(hv:∀v∈its,∃x p,v= .ref x∧oR s.heap x p)(h:Q (tuples' true) s):wpAny Xx A (keyKind' its.toArray) Q E s:=by
 obtain⟨fs,k1,k2,k3⟩:=vj hv;refine kat_kind (T:= .type "int") k1 Xz (fun v hv=>?_) (XC) h;obtain⟨i,t,rfl⟩:=k3 v hv;exact .now
end
theorem Yg{l:List Nat}{f:Nat→V}{g:Nat→Value}(h:∀i∈l,RelV (f i) (g i)):Vals (l.map f) (l.map g):=by
 induction l with
 |nil=>exact .nil
 |cons i r ih=>exact .cons (h i (List.mem_cons_self ..)) (ih fun j hj=>h j (List.mem_cons_of_mem _ hj))
end L2
namespace QF
open PySem L2 PySem.Spec PyProof.Rows PySem.W PySem.Calls
inductive Dm(K:Frag)(vs:List V)(H:Hp)(Q:VK):Prop
 |mk (l:Addr) (xs:List V) (ps:List Pr) (_:vs=[.ref l]) (_:jb K H l xs) (_:iQ H xs ps) (_:ps.Nodup) (_:ps.length<10000) (_:∀D ys qs,H D=none→iQ H ys qs→qs.Perm ps→qs.Pairwise (fun p q=>iE p q=true)→Q (.ref D) (upd H D (.lst ys))):Dm K vs H Q
theorem Zk{X:Cx}(K:Frag)(hK:X.K=K:=by rfl):jz X (.builtin "sorted") (Dm K):=by
 subst hK;intro pins s σ H vs us Q I r h;obtain⟨l,xs,ps,rfl,hq,PS,nd,Di,q⟩:=h;obtain⟨u,rfl,rx⟩:=vals1 r;cases rx;obtain⟨its,r',pl,hz⟩:=I.list hq;have hlen:=r'.length;have rO:=PS.1;have key:∀i,i<its.length→∃t,xs[i]?=some (.ref t)∧its[i]?=some (.ref t)∧H t=some (.tup (j6 (ps.getD i (0,0))))∧oR s.heap t (ps.getD i (0,0)):=fun i hi=>by
  have hp:ps[i]?=some (ps.getD i (0,0)):=by simp[show i<ps.length by omega]
  obtain⟨t,h1,h2⟩:=PS.2 i _ hp;obtain⟨v,h3,h4⟩:=r'.get h1;cases h4;refine⟨t,h1,h3,h2,?_⟩;obtain⟨WG,r2,⟨o,e1,e2,n,e3⟩,_⟩:=I.tuple (xs:=j6 (ps.getD i (0,0))) (.of h2);cases r2 with
  |cons a b=>
   cases b with
   |cons c d=>
    cases d;obtain⟨ta,rfl⟩:=a;obtain⟨tc,rfl⟩:=c;exact⟨o,ta,tc,n,e1,e2,e3⟩
 have GG:∀{h':Heap},(∀b o,s.heap.get? b=some o→h'.get? b=some o)→∀{x p},oR s.heap x p→oR h' x p:=fun k _ _ ⟨o,t,u,n,a,b⟩=>⟨o,t,u,n,k _ _ a,b⟩
 have L:Y' its.length fun i j=>iE (ps.getD i (0,0)) (ps.getD j (0,0)):=by
  refine⟨fun i j k _ _ _ a b=>Dj a b,fun i j _ _ a=>Dk a,fun i j hi hj f9=>Ac fun e=>f9 ?_⟩;have e:ps[i]?=ps[j]?:=by
   rw[List.getElem?_eq_getElem Xz,List.getElem?_eq_getElem Xz];simpa[show i<ps.length by omega,show j<ps.length by omega]using e
  exact(List.getElem?_inj Xz nd).mp e
 have LX:its.Nodup:=by
  refine List.pairwise_iff_getElem.mpr fun i j hi hj uk e=>?_
  obtain⟨t1,_,a2,a3,_⟩:=key i hi;obtain⟨t2,_,b2,b3,_⟩:=key j hj;rw[List.getElem?_eq_getElem hi]at a2;rw[List.getElem?_eq_getElem hj,←e,a2]at b2;cases b2;rw[a3]at b3;have h1:ps[i]?=some (ps.getD i (0,0)):=by simp[show i<ps.length by omega]
  have h2:ps[j]?=some (ps.getD j (0,0)):=by simp[show j<ps.length by omega]
  have e9:ps.getD i (0,0)=ps.getD j (0,0):=by
   have:=HO.tup.inj (Xs b3);simp only[j6,List.cons.injEq,V.int.injEq,and_true]at this;exact Prod.ext this.1 this.2
  have:=(List.getElem?_inj Xz nd).mp (h1.trans (by rw[e9];exact h2.symm));omega
 refine ZX (κ:=tuples' true) pl.isList Xz LX L (fun h2 s' k Q' hq=>?_) (fun i j hi hj s' k C hC=>?_) fun p h' D c hp hs k hD e=>?_
 ·refine Ba Xz (fun v hv=>?_) hq;obtain⟨i,hi,rfl⟩:=List.mem_iff_getElem.mp hv;obtain⟨t,_,h3,_,h5⟩:=key i hi;exact⟨t,_,by rw[List.getElem?_eq_getElem hi]at h3;exact Xs h3,GG k h5⟩
 ·obtain⟨t,_,h3,_,h5⟩:=key i hi;obtain⟨t',_,g3,_,g5⟩:=key j hj;have e1:its.getD i .none= .ref t:=by simp[h3]
  have e2:its.getD j .none= .ref t':=by simp[g3]
  rw[e1,e2];exact Fh (GG k h5) (GG k g5) hC
 ·have mem:∀i∈p.toList,i<its.length:=fun i hi=>by
   have:=hp.mem_iff.mp hi;simpa using this
  have rel:Vals (p.toList.map fun i=>xs.getD i .cI) (p.toList.map fun i=>its.getD i Value.none):=Yg fun i hi=>by
   obtain⟨t,h1,h3,_⟩:=key i (mem i hi);have e1:xs.getD i .cI= .ref t:=by simp[h1]
   have e2:its.getD i .none= .ref t:=by simp[h3]
   rw[e1,e2];rfl
  have hsz:(p.toList.map fun i=>xs.getD i V.cI).length=its.length:=by rw[List.length_map,Array.length_toList,hp.size]
  have Jd:(p.toList.map fun i=>ps.getD i (0,0)).length=its.length:=by rw[List.length_map,Array.length_toList,hp.size]
  refine⟨.ref D,_,I.laid (t':=s.toks) k hD (show cJ X.prog X.w _ h' _ (.lst _)from⟨by rw[hsz,←hlen];exact hz,_,c,rel,e⟩),rfl,q D _ (p.toList.map fun i=>ps.getD i (0,0)) (I.bO.fresh hD) ⟨by rw[hsz,Jd],fun i f hf=>?_⟩ ?_ ?_⟩
  ·rw[List.getElem?_map]at hf⊢;cases ei:p.toList[i]? with
   |none=>rw[ei]at hf;cases hf
   |some j=>
    rw[ei]at hf;have hf:ps.getD j (0,0)=f:=Xs hf;obtain⟨t,h1,h3,h4,_⟩:=key j (mem j (Xj ei));refine⟨t,?_,by rw[←hf];exact h4⟩;show some (xs.getD j .cI)=_;simp[h1]
  ·have h1:=hp.map (fun i=>ps.getD i (0,0));refine h1.trans ?_;have:(List.range its.length).map (fun i=>ps.getD i (0,0))=ps:=by
    apply List.ext_getElem?;intro i;rw[List.getElem?_map];by_cases hi:i<its.length
    ·rw[List.getElem?_range hi];simp[show i<ps.length by omega]
    ·rw[List.getElem?_eq_none (by simp;omega),List.getElem?_eq_none Xz];rfl
   rw[this]
  ·rw[List.pairwise_iff_getElem];intro i j hi hj uk;have XQ:i<its.length:=by rw[Jd]at hi;exact hi
   have Bz:j<its.length:=by rw[Jd]at hj;exact hj
   have:=hs i j uk Bz;have BB:=hp.size;simp only[List.getElem_map];have e1:gd p i=p.toList[i]'(by simp;omega):=by simp[gd,show i<p.size by omega]
   have e2:gd p j=p.toList[j]'(by simp;omega):=by simp[gd,show j<p.size by omega]
   rw[e1,e2]at this;exact this
end QF
namespace L2
open PySem PySem.Spec PyProof.Rows PySem.W PySem.Calls
open AutoSeq1 (wpAny_loadPart')
theorem Je{A:Around}{s:Shared}{i j:Int}{t u:Tok}:SeqAt.EqAt A s (.int i t) (.int j u) (decide (i=j)):=by
 have:=vM (A:=A) (s:=s) (y:= .int i) (x:= .int j) ⟨t,rfl⟩ ⟨u,rfl⟩ rfl rfl;simpa[vL,Bool.beq_eq_decide_eq]using this
theorem LY{prog:Program}{w:World}{A:Around}{E:Value→Shared→Prop}{s:Shared}{i j:Int}{t u:Tok}{Q:Value→Shared→Prop}(h:Q (.bool (decide (i<j))) s):wpAny Xx A (richCompare .Lt (.int i t) (.int j u)) Q E s:=lt_int h
theorem Dn(l b:Addr)(p q:Int×Int)(t u t' u':Tok)(n n2:Nat)(dd Cy:Option Addr)(sl wU:Array (Option Value)):
  Meets (Builtin.«tuple.__lt__» ⟨[.ref l, .ref b],[]⟩) (fun A R s=>s.heap.get? l=some {cls:= .type "tuple",dict:=dd,data:= .seq #[.int p.1 t, .int p.2 u] n,slots:=sl}∧s.heap.get? b=some {cls:= .type "tuple",dict:=Cy,data:= .seq #[.int q.1 t', .int q.2 u'] n2,slots:=wU}∧
    R (.ok (.ret (.bool (iE p q)))) s):=
 .of_wp fun prog w A R s h=>by
  obtain⟨hp,g,d,tk,os⟩:=s;obtain⟨hl,hb,h⟩:=h;have f2:=AutoSeq1.sub_tuple_tuple
  wp_walk using wpAny_loadPart' hl,wpAny_loadPart' hb
  refine(show wpAny Xx A.in1 (eqBool (.int p.1 t) (.int q.1 t')) _ _ _ from Je _ _ _ _ ?_);by_cases a:p.1=q.1
  ·rw[decide_eq_true a]
   wp_walk
   refine(show wpAny Xx A.in1 (eqBool (.int p.2 u) (.int q.2 u')) _ _ _ from Je _ _ _ _ ?_);by_cases c:p.2=q.2
   ·rw[decide_eq_true c]
    wp_walk
    have e:iE p q=false:=by simp[iE,a,c]
    rw[e]at h;exact⟨_,rfl,h⟩
   ·rw[decide_eq_false c];have e:iE p q=decide (p.2<q.2):=by simp[iE,a]
    rw[e]at h
    wp_walk using LY
    exact⟨_,rfl,h⟩
  ·rw[decide_eq_false a];have e:iE p q=decide (p.1<q.1):=by simp[iE,a]
   rw[e]at h
   wp_walk using LY
   exact⟨_,rfl,h⟩
theorem Zw{prog:Program}{w:World}{A:Around}{E:Value→Shared→Prop}{s:Shared}{x y:Addr}{p q:Int×Int}{Q:Value→Shared→Prop}(hu:A.units<cLine)(hx:oR s.heap x p)(hy:oR s.heap y q)(h:Q (.bool (iE p q)) s):wpAny Xx A (compareOp .Lt (.ref x) (.ref y)) Q E s:=by
 obtain⟨⟨c,dd,da,sl⟩,t,u,n,h1,h2,h3⟩:=hx;obtain⟨⟨c',D1,UD,KC⟩,t',u',n',g1,g2,g3⟩:=hy;simp only at h2 h3 g2 g3;subst h2 h3 g2 g3;exact richCompare_meets_room (op:= .Lt) ⟨_,h1,rfl⟩ ⟨_,g1,rfl⟩ F.slot_tuple_lt F.entry_tuple_lt (F.args_tuple_lt_2 _ _) (Dn x y p q t u t' u' n n' dd D1 sl KC) ⟨h1,g1,show Value.bool (iE p q)≠Value.notImplemented∧Q (.bool (iE p q)) s from⟨(fun x=>nomatch x),h⟩⟩ hu
abbrev Kw:=Int×(Int×Int)
def X7(a b:Kw):Bool:=if a.1=b.1 then iE a.2 b.2 else decide (a.1<b.1)
theorem Jf{p q r:Kw}(a:X7 p q=true)(b:X7 q r=true):X7 p r=true:=by
 unfold X7 at*;by_cases h1:p.1=q.1<;>by_cases h2:q.1=r.1
 ·rw[Xp h1]at a;rw[Xp h2]at b;rw[Xp (h1.trans h2)];exact Dj a b
 ·rw[Xm h2]at b;rw[Xm (by rw[h1];exact h2),h1];exact b
 ·rw[Xm h1]at a;rw[Xm (by rw[←h2];exact h1),←h2];exact a
 ·rw[Xm h1]at a;rw[Xm h2]at b;have a:=of_decide_eq_true a;have b:=of_decide_eq_true b;rw[if_neg Xz];exact decide_eq_true Xz
theorem Jg{p q:Kw}(a:X7 p q=true):X7 q p=false:=by
 unfold X7 at*;by_cases h1:p.1=q.1
 ·rw[Xp h1]at a;rw[Xp h1.symm];exact Dk a
 ·rw[Xm h1]at a;rw[Xm (fun z=>h1 z.symm)];have a:=of_decide_eq_true a;exact decide_eq_false Xz
theorem Fi{p q:Kw}(h:p≠q):X7 p q=true∨X7 q p=true:=by
 unfold X7;by_cases h1:p.1=q.1
 ·rw[Xp h1,Xp h1.symm];exact Ac fun z=>h (Prod.ext h1 z)
 ·rw[Xm h1,Xm (fun z=>h1 z.symm)];rcases Int.lt_or_lt_of_ne h1 with z|z
  ·exact .inl (decide_eq_true z)
  ·exact .inr (decide_eq_true z)
section
variable{prog:Program}{w:World}{A:Around}{E:Value→Shared→Prop}{s:Shared}
def vk(h:Heap)(x:Addr)(k:Kw):Prop:=∃o t y c,h.get? x=some o∧o.cls= .type "tuple"∧o.data= .seq #[.int k.1 t, .ref y] c∧oR h y k.2
theorem Bb{x y:Addr}{p q:Int×Int}(hu:A.units+1<cLine)(hx:oR s.heap x p)(hy:oR s.heap y q):SeqAt.EqAt A s (.ref x) (.ref y) (decide (p=q)):=by
 obtain⟨o,t,u,n,h1,h2,h3⟩:=hx;obtain⟨o',t',u',n',g1,g2,g3⟩:=hy;by_cases e:x=y
 ·subst e;rw[h1]at g1;cases g1;rw[h3]at g3;injection g3 with g3 _;have g3:=congrArg Array.toList g3;simp at g3;have:p=q:=Prod.ext g3.1.1 g3.2.1;rw[decide_eq_true this];exact SeqAt.EqAt.same _
 ·have:=SeqAt.EqAt.of_refs e (SeqAt.RcAt.tuples (A:=A) (s:=s) (items:=#[.int p.1 t, .int p.2 u]) (items2:=#[.int q.1 t', .int q.2 u']) (e:=fun j=>if j=0 then decide (p.1=q.1)else decide (p.2=q.2)) ⟨o,h1,h2,n,h3⟩ ⟨o',g1,g2,n',g3⟩ Xz fun j h1 h2=>by
   have:j=0∨j=1:=by simp at h1;omega
   rcases this with rfl|rfl
   ·exact Je
   ·exact Je)
  have e2:((List.range (min #[Value.int p.1 t, .int p.2 u].size #[Value.int q.1 t', .int q.2 u'].size)).all (fun j=>if j=0 then decide (p.1=q.1)else decide (p.2=q.2))&&#[Value.int p.1 t, .int p.2 u].size==#[Value.int q.1 t', .int q.2 u'].size)=decide (p=q):=by
   simp[List.range_succ];by_cases a:p.1=q.1<;>by_cases b:p.2=q.2<;>simp[Prod.ext_iff,a,b]
  rw[e2]at this;exact this
theorem Jh{x y:Addr}{p q:Kw}{C:Bool→Shared→Prop}(hu:A.units+1<cLine)(hx:vk s.heap x p)(hy:vk s.heap y q)(h:C (X7 p q) s):wpAny Xx A (keyLt' (tuples' true) (.ref x) (.ref y)) C E s:=by
 obtain⟨ox,t,z,n,h1,h2,h3,h4⟩:=hx;obtain⟨oy,t',z',n',g1,g2,g3,g4⟩:=hy;refine kat_lt h1 h3 g1 g3 (kat_cons (Je _ _ _ _ ?_));by_cases a:p.1=q.1
 ·rw[decide_eq_true a];refine kat_yes (kat_cons (Bb hu h4 g4 _ _ _ _ ?_));have e:X7 p q=iE p.2 q.2:=Xp a;by_cases b:p.2=q.2
  ·rw[decide_eq_true b];refine kat_yes (kat_nil ?_);have:X7 p q=decide (#[Value.int p.1 t, .ref z].size<#[Value.int q.1 t', .ref z'].size):=by rw[e,b];simp[iE]
   rw[this]at h;exact h
  ·rw[decide_eq_false b];rw[e]at h;exact kat_no (kat_one _ _ (Zw Xz h4 g4 h))
 ·rw[decide_eq_false a];have e:X7 p q=decide (p.1<q.1):=Xm a;rw[e]at h;exact kat_no (oneLt_int h)
end
theorem Ji{X:Cx}{cm:Bool}{k:Nat}{f:Addr}{fd:FuncData}{ps:List Str}{sp:Sp}{A':Around}{pins:List (Addr×Obj)}{σ:St}{H:Hp}{s:Shared}{Q:VK}{us:List Value}{vs:List V}{E:Value→Shared→Prop}
  (F:a8 X.prog X.w X.K X.mg X.base (dq X.prog X.w) cm k f fd ps sp) (hr:eK cm k A') (hf:A'.frames=X.A.frames) (hb:Binds X.K fd ps []) (I:Inv X pins σ H s) (r:Vals vs us) (h:sp vs H Q E0):
  wpAny Xv A' (call (.ref f) us) (EP X pins σ Q) E s:=by
 have hl:(us++[]).length=ps.length:=by rw[List.append_nil,←r.length];exact F.len _ _ _ _ h
 have J6:=hb s us I.qF hl;rw[List.append_nil]at J6;refine wpAny_call (codeAny_mono (F.run A' X.stack s H ⟨us,[]⟩ us vs Q E0 hr {I.HH with frames:=by rw[hf];exact I.ok.frames} J6 r h) fun r s' hq=>?_);cases r with
 |error e=>obtain⟨_,_,_,_,_,_,_,_,_,_,_,_,_,h⟩:=hq;exact h.elim
 |ok fl=>
  cases fl with
  |ret u=>exact I.after hq
  |next=>exact False.elim hq
  |brk=>exact False.elim hq
  |cont=>exact False.elim hq
end L2
namespace QF
open PySem L2 PySem.Spec PyProof.Rows PySem.W PySem.Calls
def KQ(H1:Hp)(w:Kw):VK:=fun y H2=>au H1 H2∧∃k t,y= .ref k∧H2 k=some (.tup [.int w.1, .ref t])∧H2 t=some (.tup [.int w.2.1, .int w.2.2])
def kl(ws:List Kw)(i j:Nat):Bool:=X7 (ws.getD i (0,(0,0))) (ws.getD j (0,(0,0)))
def Ks(H:Hp)(ws:List Kw)(as:List Addr):Prop:=∀j k,as[j]?=some k→∃t,H k=some (.tup [.int (ws.getD j (0,(0,0))).1, .ref t])∧H t=some (.tup [.int (ws.getD j (0,(0,0))).2.1, .int (ws.getD j (0,(0,0))).2.2])
theorem Ks.key{X:Cx}{pins:List (Addr×Obj)}{σ:L2.St}{H:Hp}{s:Shared}{ws:List Kw}{as:List Addr}{j:Nat}{k:Addr}(I:Inv X pins σ H s)(h:Ks H ws as)(e:as[j]?=some k):vk s.heap k (ws.getD j (0,(0,0))):=by
 obtain⟨t,h1,h2⟩:=h j k e;obtain⟨its,r,⟨o,e1,e2,n,e3⟩,_⟩:=I.tuple (xs:=[.int (ws.getD j (0,(0,0))).1, .ref t]) (.of h1);obtain⟨its',r',⟨o',g1,g2,n',g3⟩,_⟩:=I.tuple (xs:=[.int (ws.getD j (0,(0,0))).2.1, .int (ws.getD j (0,(0,0))).2.2]) (.of h2);cases r with
 |cons a b=>cases b with
  |cons c d=>
   cases d;obtain⟨ta,rfl⟩:=a;cases c;cases r' with
   |cons a' b'=>cases b' with
    |cons c' d'=>
     cases d';obtain⟨UE,rfl⟩:=a';obtain⟨UG,rfl⟩:=c';exact⟨o,ta,t,n,e1,e2,e3,o',UE,UG,n',g1,g2,g3⟩
theorem Yk{h:Heap}:∀{its:List Value},(∀v∈its,∃x p,v= .ref x∧vk h x p)→∃fs,KatTups h its fs∧fs.length=its.length∧∀f∈fs,∃i t,f=Value.int i t
 |[],_=>⟨[], .nil,rfl,fun f hf=>by cases hf⟩
 |v::r,hv=>by
  obtain⟨x,p,rfl,o,t,u,n,h1,h2,h3,_⟩:=hv v (List.mem_cons_self ..);obtain⟨fs,k1,k2,k3⟩:=Yk (its:=r) fun v K1=>hv v (List.mem_cons_of_mem _ K1)
  refine⟨.int p.1 t::fs, .cons h1 h2 h3 rfl k1,by simp[k2],fun f hf=>?_⟩;rcases List.mem_cons.mp hf with rfl|hf
  ·exact⟨_,_,rfl⟩
  ·exact k3 f hf
theorem Dp{prog:Program}{w:World}{A:Around}{E:Value→Shared→Prop}{s:Shared}{its:List Value}{Q:SortKind→Shared→Prop}(f9:0<its.length)(hv:∀v∈its,∃x p,v= .ref x∧vk s.heap x p)(h:Q (tuples' true) s):wpAny Xx A (keyKind' its.toArray) Q E s:=by
 obtain⟨fs,k1,k2,k3⟩:=Yk hv;refine kat_kind (T:= .type "int") k1 Xz (fun v hv=>?_) (XC) h;obtain⟨i,t,rfl⟩:=k3 v hv;exact .now
section
variable{X:Cx}{cm:Bool}{k:Nat}{f:Addr}{fd:FuncData}{ps:List Str}{sp:Sp}{A':Around}{pins:List (Addr×Obj)}{σ:L2.St}{H:Hp}{s:Shared}{E:Value→Shared→Prop}{a kS:Addr}{vs:List Value}{xs:List V}{ws:List Kw}{e1:Nat}{P:PySem.Fin→Shared→Prop}
theorem Dq(hu:A'.units+1<cLine)(I:Inv X pins σ H s){kA:Array Value}{e:Nat}{as:List Addr}(hk:s.heap.get? kS=some (seqObj "list" kA e))(ha:s.heap.get? a=some (seqObj "list" #[] e1))(fk:iX X pins H kS)(fa:iX X pins H a)(f9:kS≠a)
  (ek:kA.toList=as.map Value.ref) (el:as.length=vs.length) (K:Ks H ws as) (r:Vals xs vs) (hlen:ws.length=vs.length) (nd:ws.Nodup) (Di:vs.length<10000)
  (h:∀p s',wV vs.length p→Sd (kl ws) p vs.length→Inv X pins σ (upd H a (.lst (p.toList.map fun i=>xs.getD i .cI))) s'→P (.done (.ret .none)) s'):
  wpAny Xv A' (ksk_end a false vs.toArray e1 (.ref kS) kA) P E s:=by
 have UH:kA=(as.map Value.ref).toArray:=by apply Array.toList_inj.mp;simpa using ek
 subst UH;have hl:(as.map Value.ref).length=vs.length:=by rw[List.length_map];exact el
 have key:∀i,i<vs.length→∃x,(as.map Value.ref).getD i Value.none= .ref x∧vk s.heap x (ws.getD i (0,(0,0))):=fun i hi=>by
  have hx:as[i]?=some as[i]:=List.getElem?_eq_getElem Xu;exact⟨as[i],by simp[show i<as.length by lia],K.key I hx⟩
 have L:Y' vs.length (kl ws):=by
  refine⟨fun i j k _ _ _ a b=>Jf a b,fun i j _ _ a=>Jg a,fun i j hi hj f9=>Fi fun e=>f9 ?_⟩;have e:ws[i]?=ws[j]?:=by
   rw[List.getElem?_eq_getElem Xu,List.getElem?_eq_getElem Xu];simpa[show i<ws.length by lia,show j<ws.length by lia]using e
  exact(List.getElem?_inj Xu nd).mp e
 have tail:∀(st:SortSt)(p:Array Nat),wV vs.length p→Sd (kl ws) p vs.length→(arrOf st).map (·.2)=List.toArray (p.toList.map fun i=>vs.getD i Value.none)→failedOf st=none→wpAny Xv A' (ksk_tail a false e1 (.ref kS) st) P E s:=fun st p hp hs hm hf=>by
  have hsz:(List.toArray (p.toList.map fun i=>vs.getD i Value.none)).size=vs.length:=by rw[List.size_toArray,List.length_map,Array.length_toList,hp.size]
  have s1:=Heap.SameBut.update s.heap kS (Obj.mapSeq fun _=>(#[]:Array Value));have XG:(s.heap.update kS (Obj.mapSeq fun _=>(#[]:Array Value))).get? a=some (seqObj "list" #[] e1):=(s1.2 a (Ne.symm f9)).trans ha;have s2:=Heap.SameBut.update (s.heap.update kS (Obj.mapSeq fun _=>(#[]:Array Value))) a (Obj.mapSeq fun _=>List.toArray (p.toList.map fun i=>vs.getD i Value.none));obtain⟨c2,vR⟩:∃c2,((s.heap.update kS (Obj.mapSeq fun _=>(#[]:Array Value))).update a (Obj.mapSeq fun _=>List.toArray (p.toList.map fun i=>vs.getD i Value.none))).get? a=some (seqObj "list" (List.toArray (p.toList.map fun i=>vs.getD i Value.none)) c2):=⟨_,get?_update_seq XG fun _=>List.toArray (p.toList.map fun i=>vs.getD i Value.none)⟩
  unfold ksk_tail
  try dsimp only
  simp only[Bool.false_eq_true,if_false];rw[hm];refine wpAny_bind (listUpdate_at hk rfl (wpAny_bind (wpAny_letGo ?_)) (by rw[List.size_toArray,hl,sizeLine_eq];lia) (Nat.zero_le _));refine wpAny_bind (seqEpoch_at (s:={s with heap:=s.heap.update kS (Obj.mapSeq fun _=>(#[]:Array Value))}) XG rfl (wpAny_bind (listUpdate_at (s:={s with heap:=s.heap.update kS (Obj.mapSeq fun _=>(#[]:Array Value))}) XG rfl ?_ (Nat.zero_le _) (Nat.le_trans (Nat.le_of_eq hsz) (by rw[sizeLine_eq];lia)))));rw[hf];simp only[bne_self_eq_false,Bool.false_eq_true,if_false];have hr:=r.length;have mem:∀i∈p.toList,i<vs.length:=fun i hi=>by
   have:=hp.mem_iff.mp hi;simpa using this
  have rel:Vals (p.toList.map fun i=>xs.getD i .cI) (p.toList.map fun i=>vs.getD i Value.none):=Yg fun i hi=>by
   have hi:=mem i hi;obtain⟨v,h1,h2⟩:=r.get (i:=i) (x:=xs[i]) (by simp[show i<xs.length by lia]);have e1:xs.getD i .cI=xs[i]:=by simp[show i<xs.length by lia]
   have e2:vs.getD i .none=v:=by simp[h1]
   rw[e1,e2];exact h2
  refine wpAny_pure (h p _ hp hs (I.Yn (t':=s.toks) (fp:=[kS,a]) (fun b hb=>?_) fa (fun b o hb e=>?_) ⟨by rw[List.length_map,Array.length_toList,hp.size,sizeLine_eq];lia,_,c2,rel,vR⟩))
  ·simp only[List.mem_cons,List.mem_singleton,List.not_mem_nil,or_false]at hb;rcases hb with rfl|rfl
   ·exact fk
   ·exact fa
  ·simp only[List.mem_cons,List.not_mem_nil,or_false,not_or]at hb;exact(s2.2 b hb.2).trans ((s1.2 b hb.1).trans e)
 unfold ksk_end
 try dsimp only
 simp only[Bool.false_eq_true,if_false];by_cases h2:2≤vs.length
 ·have wQ:¬vs.toArray.size<2:=by rw[List.size_toArray];lia
  rw[Xm wQ,Xm wQ];refine wpAny_bind (wpAny_mono (Dp (Q:=fun NH s'=>NH=tuples' true∧s'=s) (E:=E) (its:=as.map Value.ref) (by lia) (fun v hv=>?_) ⟨rfl,rfl⟩) ?_ fun _ _ x=>x)
  ·obtain⟨i,hi,rfl⟩:=List.mem_iff_getElem.mp hv;obtain⟨x,h3,h5⟩:=key i Xu;exact⟨x,_,by rw[←h3];simp[show i<as.length by simpa using hi],h5⟩
  rintro NH s0 ⟨UI,UJ⟩;rw[UI,UJ];have LZ:(as.map Value.ref).Nodup:=by
   refine List.pairwise_iff_getElem.mpr fun i j hi hj uk e=>?_
   have XQ:i<as.length:=by simpa using hi
   have Bz:j<as.length:=by simpa using hj
   have e:as[i]=as[j]:=by simpa using e
   obtain⟨t1,a1,a2⟩:=K i as[i] (List.getElem?_eq_getElem XQ);obtain⟨t2,b1,b2⟩:=K j as[j] (List.getElem?_eq_getElem Bz);rw[←e,a1]at b1;have h1:=HO.tup.inj (Xs b1);simp only[List.cons.injEq,V.int.injEq,V.ref.injEq,and_true]at h1;rw[←h1.2,a2]at b2;have h2:=HO.tup.inj (Xs b2);simp only[List.cons.injEq,V.int.injEq,and_true]at h2;have e9:ws.getD i (0,(0,0))=ws.getD j (0,(0,0)):=Prod.ext h1.1 (Prod.ext h2.1 h2.2);have g1:ws[i]?=some (ws.getD i (0,(0,0))):=by simp[show i<ws.length by lia]
   have g2:ws[j]?=some (ws.getD j (0,(0,0))):=by simp[show j<ws.length by lia]
   have:=(List.getElem?_inj Xu nd).mp (g1.trans (by rw[e9];exact g2.symm))
   lia
  refine wpAny_bind (wpAny_mono (Ab (lt:=kl ws) hl Xu L LZ fun i j hi hj C hC=>?_) ?_ fun _ _ e=>e)
  ·obtain⟨x,h3,h5⟩:=key i hi;obtain⟨y,g3,g5⟩:=key j hj;rw[h3,g3];exact Jh hu h5 g5 hC
  rintro⟨⟨⟩,aN⟩ s' ⟨p,P9,hp,hs,P7,hf⟩;rw[P9];exact tail aN p hp hs (kat_snds hl P7) hf
 ·have wQ:vs.toArray.size<2:=by rw[List.size_toArray];lia
  rw[Xp wQ,Xp wQ];refine wpAny_bind (wpAny_pure (wpAny_bind (wpAny_pure ?_)));have hp:wV vs.length (List.toArray (List.range vs.length)):=by unfold wV;simp
  refine tail _ _ hp (fun i j uk hj=>by lia) ?_ rfl;show((as.map Value.ref).toArray.zip vs.toArray).map (·.2)=_;apply Array.toList_inj.mp;rw[Array.toList_map,Array.toList_zip];refine(List.map_snd_zip (by simp;lia)).trans ?_
  match vs,h2 with
  |[],_=>rfl
  |[x],_=>rfl
  |x::y::r,h=>simp at h
theorem Bc(F:a8 X.prog X.w X.K X.mg X.base (dq X.prog X.w) cm k f fd ps sp)(hr:eK cm k A')(hf:A'.frames=X.A.frames)(hb:Binds X.K fd ps [])(hu:A'.units+1<cLine)(I:Inv X pins σ H s)(hk:s.heap.get? kS=some (seqObj "list" #[] 0))(ha:s.heap.get? a=some (seqObj "list" #[] e1))
  (fk:iX X pins H kS) (fa:iX X pins H a) (f9:kS≠a) (r:Vals xs vs) (hlen:ws.length=vs.length) (nd:ws.Nodup) (Di:vs.length<10000)
  (pI:∀i v H1,xs[i]?=some v→au H H1→sp [v] H1 (KQ H1 (ws.getD i (0,(0,0)))) E0)
  (h:∀p H' s',wV vs.length p→Sd (kl ws) p vs.length→au H H'→H' a=none→Inv X pins σ (upd H' a (.lst (p.toList.map fun i=>xs.getD i .cI))) s'→P (.done (.ret .none)) s'):
  wpAny Xv A' (ksk_rest a (.ref f) false vs.toArray e1 (.ref kS)) P E s:=by
 have Ka:=r.length;unfold ksk_rest;refine wpAny_bind (wpAny_rule ?_);first
  |rw[List.forIn_toArray]
  |(rw[←Array.forIn_toList];simp only[List.toList_toArray])
 refine wpAny_bind (ksk_fold (fun i s'=>∃(H':Hp)(as:List Addr)(e:Nat),Inv X pins σ H' s'∧au H H'∧s'.heap.get? kS=some (seqObj "list" (as.map Value.ref).toArray e)∧s'.heap.get? a=some (seqObj "list" #[] e1)∧iX X pins H' kS∧iX X pins H' a∧as.length=i∧Ks H' ws as) vs 0 s
  ⟨H,[],0,I,fun _ _ z=>z,hk,ha,fk,fa,rfl,fun j k e=>by simp at e⟩ ?_ ?_)
 ·rintro j x s' hx ⟨H',as,e,I',sm,CH,L0,NI,L1,el,K⟩;simp only[Nat.zero_add]at el⊢;have hj:j<vs.length:=(Xc hx).1;obtain⟨u,RH,NJ⟩:=r.get (i:=j) (x:=xs[j]) (by simp[show j<xs.length by omega]);rw[hx]at RH;cases RH;have Ip:=I'.pinned (fp:=[kS,a]) (fun b hb=>by
   simp only[List.mem_cons,List.not_mem_nil,or_false]at hb;rcases hb with rfl|rfl
   ·exact NI
   ·exact L1) (fun b hb=>by
   simp only[List.mem_cons,List.not_mem_nil,or_false]at hb;rcases hb with rfl|rfl
   ·exact⟨_,CH,fun v z=>nomatch z⟩
   ·exact⟨_,L0,fun v z=>nomatch z⟩)
  refine wpAny_bind (wpAny_attempt (wpAny_mono (Ji F hr hf hb Ip (.cons NJ .nil) (pI j xs[j] H' (by simp[show j<xs.length by omega]) sm)) (fun v vG he=>?_) fun _ _ z=>z));obtain⟨y,H2,I2,ry,P_,kk,t,rfl,k1,k2⟩:=he;cases ry;dsimp only;have pk:=I2.pin (kS,_) (List.mem_append_right _ (List.mem_append_right _ (g9 Xy CH)));have pa:=I2.pin (a,_) (List.mem_append_right _ (List.mem_append_right _ (g9 Xy L0)));have I3:=I2.mJ;have s1:=Heap.SameBut.update vG.heap kS (Obj.mapSeq (·.push (.ref kk)));obtain⟨c2,vR⟩:∃c2,(vG.heap.update kS (Obj.mapSeq (·.push (.ref kk)))).get? kS=some (seqObj "list" ((as.map Value.ref).toArray.push (.ref kk)) c2):=⟨_,get?_update_seq pk.1 (·.push (.ref kk))⟩
  refine wpAny_bind (listUpdate_at pk.1 rfl ?_ (by simp;rw[sizeLine_eq];omega) (by simp;rw[sizeLine_eq];omega));have Kb:iX X pins H2 kS:=⟨pk.2.1,NI.2⟩
  have UK:iX X pins H2 a:=⟨pa.2.1,L1.2⟩
  refine wpAny_pure ⟨rfl,H2,as++[kk],c2,I3.turned (t':=vG.toks) (it:=kS) (fun b o hb e=>(s1.2 b hb).trans e) Kb.1 Kb.2.1 Kb.2.2.2.1 Kb.2.2.2.2.1 Kb.2.2.2.2.2,fun b o z=>P_ b o (sm b o z),?_,(s1.2 a (Ne.symm f9)).trans pa.1,Kb,UK,by simp[el],fun i k ei=>?_⟩
  ·show(vG.heap.update kS (Obj.mapSeq (·.push (.ref kk)))).get? kS=_;rw[vR]
   congr 2
   simp
  ·by_cases hi:i<as.length
   ·rw[List.getElem?_append_left hi]at ei;obtain⟨t',g1,g2⟩:=K i k ei;exact⟨t',P_ _ _ g1,P_ _ _ g2⟩
   ·rw[List.getElem?_append_right Xz]at ei;have UL:i-as.length=0:=by
     have:=(Xc ei).1;simp at this;omega
    rw[UL]at ei;have:kk=k:=by simpa using ei
    subst this;have:i=j:=XB;subst this;exact⟨t,k1,k2⟩
 ·rintro s' ⟨H',as,e,I',sm,CH,L0,NI,L1,el,K⟩;refine wpAny_bind (listItems_at CH rfl ?_);exact Dq hu I' CH L0 NI L1 f9 Xy (XB) K r hlen nd Di fun p s2 hp hs I2=>h p H' s2 hp hs sm L1.1 I2
theorem Bd{n:Nat}(F:a8 X.prog X.w X.K X.mg X.base (dq X.prog X.w) cm k f fd ps sp)(hr:eK cm k A')(hf:A'.frames=X.A.frames)(hb:Binds X.K fd ps [])(hu:A'.units+1<cLine)(I:Inv X pins σ H s)(ho:s.heap.get? a=some (seqObj "list" vs.toArray n))
  (fa:iX X pins H a) (r:Vals xs vs) (hlen:ws.length=vs.length) (nd:ws.Nodup) (Di:vs.length<10000)
  (pI:∀i v H1,xs[i]?=some v→au H H1→sp [v] H1 (KQ H1 (ws.getD i (0,(0,0)))) E0)
  (h:∀p H' s',wV vs.length p→Sd (kl ws) p vs.length→au H H'→H' a=none→Inv X pins σ (upd H' a (.lst (p.toList.map fun i=>xs.getD i .cI))) s'→P (.done (.ret .none)) s'):
  wpAny Xv A' (ksk_tree a (.ref f) false) P E s:=by
 have s1:=Heap.SameBut.update s.heap a (Obj.mapSeq fun _=>(#[]:Array Value));obtain⟨e1,Fg⟩:∃e1,(s.heap.update a (Obj.mapSeq fun _=>(#[]:Array Value))).get? a=some (seqObj "list" #[] e1):=⟨_,get?_update_seq ho fun _=>#[]⟩
 have I1:Inv X pins σ H {s with heap:=s.heap.update a (Obj.mapSeq fun _=>(#[]:Array Value))}:=I.turned (t':=s.toks) (it:=a) (fun b o hb e=>(s1.2 b hb).trans e) fa.1 fa.2.1 fa.2.2.2.1 fa.2.2.2.2.1 fa.2.2.2.2.2;unfold ksk_tree;refine wpAny_bind (listItems_at ho rfl (wpAny_bind (listUpdate_at ho rfl ?_ (by rw[List.size_toArray,sizeLine_eq];omega) (Nat.zero_le _))));refine wpAny_bind (seqEpoch_at Fg rfl (wpAny_bind (wpAny_newTuple (wpAny_bind (wpAny_newList (wpAny_holding ?_) (Nat.zero_le _))) (by show vs.length≤_;rw[sizeLine_eq];omega))));have I2:Inv X pins σ H {s with heap:=(s.heap.update a (Obj.mapSeq fun _=>(#[]:Array Value))).push (seqObj "tuple" vs.toArray 0)}:=I1.kept (t':=s.toks) fun b o e=>Xo e
 have I3:Inv X pins σ H {s with heap:=((s.heap.update a (Obj.mapSeq fun _=>(#[]:Array Value))).push (seqObj "tuple" vs.toArray 0)).push (seqObj "list" #[] 0)}:=I2.kept (t':=s.toks) fun b o e=>Xo e
 have fk:=I2.uq (Nat.le_refl _) (I2.bO.fresh (Nat.le_refl _));have XI:=Heap.get?_push_of_some (seqObj "tuple" vs.toArray 0) Fg;exact Bc F hr hf hb hu I3 (Heap.get?_push_size _ rfl) (Xo XI) fk fa (Nat.ne_of_gt (Heap.lt_size XI)) r hlen nd Di pI h
theorem Zp{l:Addr}{Q:VK}(F:a8 X.prog X.w X.K X.mg X.base (dq X.prog X.w) cm k f fd ps sp)(hr:eK cm (k+1) X.A)(hb:Binds X.K fd ps [])(I:Inv X pins σ H s)(hq:jb X.K H l xs)(hlen:ws.length=xs.length)(nd:ws.Nodup)(Di:xs.length<10000)
  (pI:∀i v H1,xs[i]?=some v→au H H1→sp [v] H1 (KQ H1 (ws.getD i (0,(0,0)))) E0)
  (h:∀p H' D,wV xs.length p→Sd (kl ws) p xs.length→au H H'→H D=none→H' D=none→Q (.ref D) (upd H' D (.lst (p.toList.map fun i=>xs.getD i .cI)))):
  wpAny Xv X.A (call (.builtin "sorted") [.ref l] [(Str.ofString "key", .ref f)]) (EP X pins σ Q) E s:=by
 obtain⟨vs,r,pl,hz⟩:=I.list hq;have Ka:=r.length;refine call_function_entry_kw kind_sorted plain_sorted entry_sorted (ksk_s1 _ _) ?_;unfold Builtin.«sorted»;refine wpAny_bind (m:=checkCount "sorted" 1 1 _) (wpAny_pure (wpAny_bind (collect_list pl.isList (wpAny_bind (wpAny_newList ?_ (by rw[sizeLine_eq];omega))) (by rw[sizeLine_eq];omega))));generalize hh:((s.heap.push (seqObj "list" #[] 0)).update s.heap.objs.size (Obj.mapSeq (·++vs.toArray)))=h1;have hsz:h1.objs.size=s.heap.objs.size+1:=by rw[←hh,Heap.size_update,size_push']
 have keep:∀b o,s.heap.get? b=some o→(h1.push (seqObj "list" vs.toArray 0)).get? b=some o:=fun b o q=>by
  have iM:b<s.heap.objs.size:=Heap.lt_size q;rw[Heap.get?_push_ne _ _ _ (by rw[hsz];exact Nat.ne_of_lt (Nat.lt_succ_of_lt iM)),←hh,Heap.get?_update_ne _ _ _ _ (Nat.ne_of_lt iM),Heap.get?_push_ne _ _ _ (Nat.ne_of_lt iM)];exact q
 have FY:(h1.push (seqObj "list" vs.toArray 0)).get? h1.objs.size=some (seqObj "list" vs.toArray 0):=Heap.get?_push_size _ rfl;have hD:s.heap.objs.size≤h1.objs.size:=by rw[hsz];exact Nat.le_succ _
 have RJ:H h1.objs.size=none:=I.bO.fresh hD;have I1:Inv X pins σ H {s with heap:=h1.push (seqObj "list" vs.toArray 0)}:=I.kept (t':=s.toks) keep;show wpAny _ _ _ _ _ {s with heap:=h1.push (seqObj "list" vs.toArray 0)};refine wpAny_bind (wpAny_holding (wpAny_call_entry_kw slot_list_sort ⟨_,FY,rfl⟩ entry_list_sort ?_ (ksk_l1 _ _)));show wpAny Xv X.A.in1.in1 (Builtin.«list.sort» ⟨[.ref h1.objs.size],[(Str.ofString "key", .ref f)]⟩) _ _ _;rw[ksk_t1];have un:=hr.un;refine Bd F ⟨hr.hd,by have:=hr.dp;show X.A.depth+3*k+5<_;omega,by show X.A.units+1+1+16*k+200<_;omega⟩ rfl hb (by show X.A.units+1+1+1<_;omega) I1 FY (I.uq hD RJ) r Xz nd Xz pI fun p H' s' hp hs sm hn I'=>⟨_,rfl,wpAny_pure ⟨_,rfl, .ref h1.objs.size,_,I',rfl,?_⟩⟩
 rw[←Ka]at hp hs;exact h p H' _ hp hs sm RJ hn
end
inductive Dr(K:Frag)(sp:Sp)(x:V)(H:Hp)(Q:VK):Prop
 |mk (l:Addr) (xs:List V) (ws:List Kw) (_:x= .ref l) (_:jb K H l xs) (_:ws.length=xs.length) (_:ws.Nodup) (_:xs.length<10000) (_:∀i v H1,xs[i]?=some v→au H H1→sp [v] H1 (KQ H1 (ws.getD i (0,(0,0)))) E0)
  (_:∀p H' D,wV xs.length p→Sd (kl ws) p xs.length→au H H'→H D=none→H' D=none→Q (.ref D) (upd H' D (.lst (p.toList.map fun i=>xs.getD i .cI)))):Dr K sp x H Q
def Jj(K:Frag)(sp:Sp)(ta:TE):TE:=fun σ H Q=>ta σ H fun x H1=>Dr K sp x H1 Q
theorem Ds{X:Cx}(K:Frag){cm:Bool}{k:Nat}{x:Str}{ps:List Str}{sp:Sp}{e:Expr}{ta:TE}{p pos kp fp:Pos}(D:cc X.prog X.w X.K X.mg X.base cm k x ps sp)(hr:eK cm (k+1) X.A)(he:PE X e ta)(hg:Gl X "sorted")(hm:X.mg "sorted"=none)
  (UM:Gl X x:=by rfl) (vF:(x==("__debug__":Str))=false:=by decide) (hs:starEach [e] X.env=[(false,eval e X.env)]:=by rfl) (hK:X.K=K:=by rfl):
  PE X (.Call (.Name "sorted" p) [e] [⟨some "key", .Name x fp,kp⟩] pos) (Jj K sp ta):=by
 subst hK;obtain⟨f,fd,ok,UN,hk,hb⟩:=D;intro pins s σ H Q I h;refine wpAny_Call_Name_kw (mI I hg hm (PyProof.Rows.Boot.«sorted») ?_ (XC) (XC));rw[hs];refine callWith_builtin_kwB (first:=[]) rfl rfl (evalArgs_kwB rfl ?_);refine Calls.spliced_cons ?_;show wpAny _ _ (eval e X.env) _ _ s;refine cy (he pins s σ H _ I h) fun v s1 ⟨y,H1,I1,r1,q1⟩=>Calls.spliced_nil ?_
 obtain⟨l,xs,ws,rfl,hq,hlen,nd,Di,pI,q⟩:=q1;cases r1;refine kws_cons ?_;show wpAny _ _ (eval (.Name x fp) X.env) _ _ s1;refine cy (ZI (v:= .ref f) UM UN rfl vF pins s1 σ H1 (fun y H2=>y= .ref f∧H2=H1) I1 ⟨rfl,rfl⟩) fun u s2 ⟨y,H2,I2,r2,e1,e2⟩=>?_
 subst e1 e2;cases r2;refine kws_nil ?_;exact Zp ok hr hb I2 hq hlen nd Di pI q
end QF
namespace L2
open PySem PySem.Spec PyProof.Rows PySem.W PySem.Calls
def Kc(hi:Int)(n:Nat):It:=⟨fun i _=>i<n,fun i H x H'=>H'=H∧x= .int (hi-i),fun i _=>n≤i⟩
theorem Be{P:Program}{w:World}{K:PySem.W.Frag}{tg:Expr}(it:Addr)(hi:Int)(n:Nat):Turn P w K tg (Kc hi n) [it] it (fun i h=>IsRangeIter h it (hi+(i:Nat)*(-1)) ((n:Int)-(i:Nat)) (-1)) where
 mem:=XE
 obj:=fun i h st b hb=>by
  have e:b=it:=by simpa using hb
  subst e;exact⟨_,st,fun v z=>by
   have z':Data.fields _=Data.cell v:=z;cases z'⟩
 keep:=fun i h h' st k=>k it (XE) _ st
 item:=by
  intro X hP hw hK hc i pins s σ H E I hf st hg;subst hP hw hK;obtain⟨f0,f1,f2,f3,f4,f5⟩:=hf it (XE);have W:=Walks.range (prog:=X.prog) (w:=X.w) (I.ok.hd hc) it hi (-1) n;refine W.item i s _ _ hg st fun v h' tk hv aN kk=>?_
  obtain⟨t,rfl⟩:=hv;have I1:Inv X pins σ H {s with heap:=h',toks:=tk}:=I.turned (fun b o hb e=>kk b o (by simpa using hb) e) f0 f1 f3 f4 f5;refine⟨_,rfl,Y3 (s:={s with heap:=h',toks:=tk}) (n:="range_iterator") aN rfl rfl (XC) ⟨.int (hi-i),H,I1,⟨t,?_⟩,⟨rfl,rfl⟩,aN,fun b hb=>(hf b hb).1⟩⟩
  congr 1
  omega
 done:=by
  intro X hP hw hK hc i pins s σ H E I hf st hg;subst hP hw hK;obtain⟨f0,f1,f2,f3,f4,f5⟩:=hf it (XE);exact wpAny_pyNext_range_end (I.ok.hd hc) st (by have:n≤i:=hg;omega) fun h' eb=>⟨rfl,I.turned (t':=s.toks) (fun b o hb e=>eb b o hb e) f0 f1 f3 f4 f5⟩
 self:=fun _ _ _ _ _ st h=>wpAny_pyIter_rangeiter st h
theorem rangeSize_down(a b:Int):Builtin.Range.rangeSize a b (-1)=if a>b then a-b else 0:=by
 unfold Builtin.Range.rangeSize;rw[if_neg (XC)];split<;>simp
theorem small_down{a b:Int}(ha:-(2^62)≤a)(L0:a<2^62)(hb:-(2^62)≤b)(J6:b<2^62):Builtin.Range.small a b (-1)=true:=by
 unfold Builtin.Range.small;rw[rangeSize_down];simp only[Builtin.Range.rangeFitsLong,Bool.and_eq_true,Bool.or_eq_true,decide_eq_true_eq,beq_iff_eq,show ¬(-1:Int)>0 by decide,if_false];split<;>omega
section
variable{X:Cx}{tg:Expr}
theorem Fj{pins:List (Addr×Obj)}{σ:L2.St}{H:Hp}{s:Shared}{R:It→Hp→Prop}{E:Value→Shared→Prop}{hi lo:Int}{t u v:Tok}{tk:Nat}(I:Inv X pins σ H s)(h1:-(2^62)≤hi)(h2:hi<2^62)(h3:-(2^62)≤lo)(h4:lo<2^62)
  (q:R (Kc hi (hi-lo).toNat) H):wpAny Xv X.A (pyIter (.ref s.heap.objs.size)) (OE X pins σ tg R) E {s with heap:=s.heap.push {cls:= .type "range",data:= .fields #[.int hi t, .int lo u, .int (-1) v]},toks:=tk}:=by
 refine wpAny_pyIter_range (IsRange.new ..) (small_down h1 h2 h3 h4) ?_;have I1:Inv X pins σ H {s with heap:=s.heap.push {cls:= .type "range",data:= .fields #[.int hi t, .int lo u, .int (-1) v]},toks:=tk}:=I.kept fun b o e=>Xo e
 refine⟨(s.heap.push {cls:= .type "range",data:= .fields #[.int hi t, .int lo u, .int (-1) v]}).objs.size,[(s.heap.push {cls:= .type "range",data:= .fields #[.int hi t, .int lo u, .int (-1) v]}).objs.size],_,_,H,rfl,
  I1.kept (t':=tk) fun b o e=>Xo e,Be _ hi (hi-lo).toNat,?_,fun b hb=>?_,q⟩
 ·have e1:hi+((0:Nat):Int)*(-1)=hi:=XE;have e2:(((hi-lo).toNat:Nat):Int)-((0:Nat):Int)=Builtin.Range.rangeSize hi lo (-1):=by rw[rangeSize_down];split<;>omega
  show IsRangeIter _ _ (hi+((0:Nat):Int)*(-1)) ((((hi-lo).toNat:Nat):Int)-((0:Nat):Int)) (-1);rw[e1,e2];exact Heap.get?_push_size _ rfl
 ·have e:b=(s.heap.push {cls:= .type "range",data:= .fields #[.int hi t, .int lo u, .int (-1) v]}).objs.size:=by simpa using hb
  subst e;exact I1.uq (Nat.le_refl _) (I1.bO.fresh (Nat.le_refl _))
def L3(ta:TA):TI:=fun σ H R=>ta σ H fun vs H1=>∃i j:Int,vs=[.int i, .int j, .int (-1)]∧(-(2^30)≤i∧i<2^30∧-(2^30)≤j∧j<2^30)∧R (Kc i (i-j).toNat) H1
theorem vm{a b c:Expr}{ta:TA}{p pos:Pos}(hg:Gl X "range")(hm:X.mg "range"=none)(ha:PA X [a,b,c] ta)(hs:starEach [a,b,c] X.env=[(false,eval a X.env),(false,eval b X.env),(false,eval c X.env)]:=by rfl)(HC:starEach [b,c] X.env=[(false,eval b X.env),(false,eval c X.env)]:=by rfl):
  PI X tg (.Call (.Name "range" p) [a,b,c] [] pos) (L3 ta):=by
 intro pins s σ H R I h;refine Call_ (mI I hg hm boot_range (PyProof.Rows.callWith_type1 (cy (ha pos pins s σ H _ I h) fun us s1 ⟨vs,H1,I1,r1,q1⟩=>?_) (by rw[hs,HC]) (by rw[HC];rfl)));obtain⟨i,j,e,⟨q1,q2,q3,q4⟩,q⟩:=q1;subst e;cases r1 with
 |cons r rr=>
  cases rr with
  |cons r' rr=>
   cases rr with
   |cons r2 rr=>
    cases rr;obtain⟨t,rfl⟩:=r;obtain⟨t',rfl⟩:=r';obtain⟨t2,rfl⟩:=r2;exact call_range_3 (XC) (Fj I1 Xz (XB) (XB) (XB) q) (Or.inl (PyProof.noPylong_small Xz))
theorem Yy{hi:Int}{n:Nat}{g:TG}{tb:TS}{D:Ends}{σ:L2.St}{H:Hp}(Pv:Nat→L2.St→Hp→Prop)(h0:Pv 0 σ H)
  (hs:∀i σ H,i<n→Pv i σ H→g (.int (hi-i)) σ H fun gc H2=>tb {D with nx:=Pv (i+1),ct:=Pv (i+1),bk:=D.nx} gc H2) (hd:∀σ H,Pv n σ H→D.nx σ H):
  ∃W:Nat→Nat→L2.St→Hp→Prop,(∃m,W 0 m σ H)∧∀i m σ H,W i m σ H→
   ((Kc hi n).stop i H∧D.nx σ H)∨((Kc hi n).go i H∧∃N:L2.St→Hp→Prop,(∀bF H',N bF H'→∃m',m'<m∧W (i+1) m' bF H')∧∀x H',(Kc hi n).Ej i H x H'→g x σ H' fun gc H2=>tb {D with nx:=N,ct:=N,bk:=D.nx} gc H2):=by
 refine⟨fun i m σ H=>m=n-i∧i≤n∧Pv i σ H,⟨n,XE,Nat.zero_le _,h0⟩,?_⟩;rintro i m σ H ⟨rfl,XQ,p⟩;by_cases iM:i<n
 ·refine .inr ⟨iM,Pv (i+1),fun bF H' p'=>⟨n-(i+1),XB,rfl,iM,p'⟩,fun x H' y=>?_⟩;obtain⟨e,y⟩:=y;subst e y;exact hs i σ _ iM p
 ·have e:i=n:=XB;subst e;exact .inl ⟨Nat.le_refl _,hd σ H p⟩
end
theorem Bf{d:Addr}{o:Obj}{kvs:List (List Key×V)}{ls:List Str}{js:List Nat}{g:TG}{tt:TT}{te:TE}{σ:L2.St}{H1:Hp}{D:Addr}{Q:VK}(Pv:Nat→List V→L2.St→Hp→Prop)
  (h0:Pv 0 [] (mM ls js σ) (upd H1 D (.lst []))) (hl:∀i ys σ H,i≤kvs.length→Pv i ys σ H→H d=some (.sN o (.dT kvs)))
  (hs:∀i p ys σ H,kvs[i]?=some p→Pv i ys σ H→g p.2 σ H fun gc H3=>tt gc H3 fun b H4=>if b=true then te gc H4 fun y H5=>H5 D=some (.lst ys)∧ys.length<sizeLine∧Pv (i+1) (ys++[y]) gc (upd H5 D (.lst (ys++[y])))else Pv (i+1) ys gc H4)
  (hd:∀ys σ H,Pv kvs.length ys σ H→Q (.ref D) H):tH (Pu d o kvs) ls js g tt te σ H1 D Q:=
 pU (n:=kvs.length) Pv h0 (fun i ys σ H hi p=>⟨hl i ys σ H (Nat.le_of_lt hi) p,hi⟩) (fun ys σ H p=>⟨hl _ ys σ H (Nat.le_refl _) p,Nat.le_refl _⟩)
  (fun i ys σ H x H2 hi p y=>by
   obtain⟨rfl,q,hq,rfl⟩:=y;exact hs i q ys σ _ hq p) hd
theorem Dt{X:Cx}{cm:Bool}{k:Nat}{x:Str}{C:Addr}{ps:List Str}{nL:List V}{sp:Sp}{E:L2.St→XK}{p pos:Pos}(D:ot X.prog X.w X.K X.mg X.base cm k x C ps nL sp)(hr:eK cm (k+1) X.A)(hx:Passes (dq X.prog X.w) X E)(hg:Gl X x:=by rfl)(vF:(x==("__debug__":Str))=false:=by decide):
  PE X (.Call (.Name x p) [] [] pos) (Y7 C sp nL E BV):=by
 obtain⟨f,fd,ds,ok,M,hm,hb,hd⟩:=D;exact B0 M ok hr hg hm hb hd hx vF
end L2
namespace QF
open PySem L2
structure q_(H:Hp)(C x dx e b:Addr)(es bs:List Addr)(f:Nat→Nat→Option Int)(o p:Int)(n m:Nat):Prop where
 ob:H x=some (.ins C dx (gZ o p e b))
 he:H e=some (.lst (es.map V.ref))
 te:jG H es (dj f o p) n m
 hb:H b=some (.lst (bs.map V.ref))
 tb:jG H bs (Bq f o p) (n+1) (m+1)
theorem q_.keep{H H':Hp}{C x dx e b:Addr}{es bs:List Addr}{f:Nat→Nat→Option Int}{o p:Int}{n m:Nat}(t:q_ H C x dx e b es bs f o p n m)(s:au H H'):q_ H' C x dx e b es bs f o p n m:=
 ⟨s _ _ t.ob,s _ _ t.he,t.te.same s,s _ _ t.hb,t.tb.same s⟩
theorem Du(o p:Int)(e b:Addr):(gZ o p e b).lookup ("goes_on":Str)=none:=by kernel_rfl
theorem Ad(o p:Int)(e b:Addr):(gZ o p e b).lookup ("crossings_before":Str)=none:=by kernel_rfl
theorem GH(o p:Int)(e b:Addr):(gZ o p e b).lookup ("is_brought_by":Str)=none:=by kernel_rfl
theorem Jk(o p:Int)(e b:Addr):(gZ o p e b).lookup ("pair_before":Str)=none:=by kernel_rfl
theorem L4(o p:Int)(e b:Addr):(gZ o p e b).lookup ("way_to":Str)=none:=by kernel_rfl
def g7:Option Int→Bool
 |none=>false
 |some b=>decide (0≤b)
def bg(f:Nat→Nat→Option Int)(o p:Int)(i j:Nat):List Pr:=
 (if bp (Bq f o p i (j+1)) o=Bq f o p (i+1) (j+1)then[((i:Int),((j+1:Nat):Int))]else[])++(if bp (Bq f o p (i+1) j) p=Bq f o p (i+1) (j+1)then[(((i+1:Nat):Int),(j:Int))]else[])
def cC(f:Nat→Nat→Option Int)(o p:Int):Nat→Nat→Nat×Nat
 |0,_=>(0,0)
 | _+1,0=>(0,0)
 |i+1,j+1=>if dj f o p i j=Bq f o p (i+1) (j+1)then(i,j)else if bp (Bq f o p i (j+1)) o=Bq f o p (i+1) (j+1)then cC f o p i (j+1)else cC f o p (i+1) j
termination_by i j=>(i,j)
theorem lI(f:Nat→Nat→Option Int)(o p:Int):∀i j,0<i→0<j→(cC f o p i j).1<i∧(cC f o p i j).2<j∨Bq f o p i j=none
 |0,_,h,_=>absurd h Xz
 | _+1,0,_,h=>absurd h Xz
 |i+1,j+1,_,_=>by
  cases hB:Bq f o p (i+1) (j+1)with
  |none=>exact .inr rfl
  |some v=>
   left
   unfold cC;by_cases h1:dj f o p i j=Bq f o p (i+1) (j+1)
   ·rw[Xp h1];exact⟨XE,XE⟩
   ·rw[Xm h1];by_cases h2:bp (Bq f o p i (j+1)) o=Bq f o p (i+1) (j+1)
    ·rw[Xp h2];have hn:Bq f o p i (j+1)≠none:=fun z=>by rw[z,hB]at h2;simp[bp]at h2
     have hi:0<i:=by
      cases i with
      |zero=>exact absurd (jg f o p (j+1)) hn
      |succ i=>omega
     rcases lI f o p i (j+1) hi Xz with z|z
     ·exact⟨XB,z.2⟩
     ·exact absurd z hn
    ·rw[Xm h2];have hn:Bq f o p (i+1) j≠none:=fun z=>by
      have e:Bq f o p (i+1) (j+1)=pY [dj f o p i j,bp (Bq f o p i (j+1)) o,bp (Bq f o p (i+1) j) p]:=by
       rw[Bq];rfl
      rw[z]at e;have:bp none p=(none:Option Int):=rfl;rw[this]at e;have key:∀a b:Option Int,pY [a,b,none]=a∨pY [a,b,none]=b:=fun a b=>by
       cases a<;>cases b<;>simp[pY]
       rename_i x y
       by_cases XJ:x≤y
       ·right;omega
       ·left;omega
      rcases key (dj f o p i j) (bp (Bq f o p i (j+1)) o)with k|k
      ·exact h1 (by rw[e,k])
      ·exact h2 (by rw[e,k])
     have hj:0<j:=by
      cases j with
      |zero=>exact absurd (by unfold Bq;rfl) hn
      |succ j=>omega
     rcases lI f o p (i+1) j Xz hj with z|z
     ·exact⟨z.1,XB⟩
     ·exact absurd z hn
termination_by i j=>(i,j)
def eh(f:Nat→Nat→Option Int)(o p:Int):Nat→Nat→Nat→List (Nat×Nat)
 |0,i,j=>[(i,j)]
 |k+1,i,j=>if g7 (Bq f o p i j)=true then eh f o p k (cC f o p i j).1 (cC f o p i j).2++[(i,j)]else[(i,j)]
def aK(q:Nat×Nat):Pr:=((q.1:Int),(q.2:Int))
inductive rf(C CT:Addr)(vs:List V)(H:Hp)(Q:VK)(u3:XK):Prop
 |mk (x dx w t:Addr) (c:Case) (as:List Addr) (f:Nat→Nat→Option Int) (n m:Nat) (_:vs=[.ref x, .ref w, .ref t]) (_:H x=some (.ins C dx [])) (_:H dx=some (.own x)) (_:H w=some (.lst (as.map V.ref))) (_:jG H as f n m) (_:XT H CT t c) (_:n≤1000) (_:m≤1000) (_:∀H' e b,SameBut x H H'→H' x=some (.ins C dx (gZ c.out c.into e b))→Tab H H' e (dj f c.out c.into) n m→(0<n→Tab H H' b (Bq f c.out c.into) (n+1) (m+1))→Q .cI H'):rf C CT vs H Q u3
inductive wm(C:Addr)(vs:List V)(H:Hp)(Q:VK)(u3:XK):Prop
 |mk (x dx e b:Addr) (es bs:List Addr) (f:Nat→Nat→Option Int) (o p:Int) (n m:Nat) (pr:Addr) (i j:Nat) (_:vs=[.ref x, .ref pr]) (_:q_ H C x dx e b es bs f o p n m) (_:H pr=some (.tup [.int i, .int j])) (_:i≤n) (_:j≤m) (_:Q (.bl (g7 (Bq f o p i j))) H):wm C vs H Q u3
inductive YN(C:Addr)(vs:List V)(H:Hp)(Q:VK)(u3:XK):Prop
 |mk (x dx e b:Addr) (es bs:List Addr) (f:Nat→Nat→Option Int) (o p:Int) (n m:Nat) (cr pr:Addr) (i j k l:Nat) (_:vs=[.ref x, .ref cr, .ref pr]) (_:q_ H C x dx e b es bs f o p n m) (_:H cr=some (.tup [.int i, .int j])) (_:H pr=some (.tup [.int k, .int l])) (_:i≤n) (_:j≤m) (_:k<n) (_:l<m) (_:Q (.bl (decide (dj f o p k l=Bq f o p i j))) H):YN C vs H Q u3
inductive tR(C:Addr)(vs:List V)(H:Hp)(Q:VK)(u3:XK):Prop
 |mk (x dx e b:Addr) (es bs:List Addr) (f:Nat→Nat→Option Int) (o p:Int) (n m:Nat) (cr:Addr) (i j:Nat) (_:vs=[.ref x, .ref cr]) (_:q_ H C x dx e b es bs f o p n m) (_:H cr=some (.tup [.int ((i+1:Nat):Int), .int ((j+1:Nat):Int)])) (_:i<n) (_:j<m) (_:∀H' r us,au H H'→H r=none→H' r=some (.lst us)→iQ H' us (bg f o p i j)→Q (.ref r) H'):tR C vs H Q u3
inductive wo(C:Addr)(vs:List V)(H:Hp)(Q:VK)(u3:XK):Prop
 |mk (x dx e b:Addr) (es bs:List Addr) (f:Nat→Nat→Option Int) (o p:Int) (n m:Nat) (pr:Addr) (i j:Nat) (_:vs=[.ref x, .ref pr]) (_:q_ H C x dx e b es bs f o p n m) (_:H pr=some (.tup [.int i, .int j])) (_:i≤n) (_:j≤m) (_:Bq f o p i j≠none) (_:∀H' r,au H H'→H' r=some (.tup (j6 (aK (cC f o p i j))))→Q (.ref r) H'):wo C vs H Q u3
inductive YJ(C:Addr)(vs:List V)(H:Hp)(Q:VK)(u3:XK):Prop
 |mk (x dx e b:Addr) (es bs:List Addr) (f:Nat→Nat→Option Int) (o p:Int) (n m:Nat) (pr:Addr) (i j:Nat) (_:vs=[.ref x, .ref pr]) (_:q_ H C x dx e b es bs f o p n m) (_:H pr=some (.tup [.int i, .int j])) (_:i<n) (_:j<m) (_:n≤1000) (_:∀H' r us,au H H'→H r=none→H' r=some (.lst us)→iQ H' us ((eh f o p i i j).map aK)→Q (.ref r) H'):YJ C vs H Q u3
theorem UO(a b:Option Int):pY [a,b,none]=a∨pY [a,b,none]=b:=by
 cases a<;>cases b<;>simp[pY]
 rename_i x y
 by_cases XJ:x≤y
 ·right;omega
 ·left;omega
theorem Zy{f:Nat→Nat→Option Int}{o p:Int}{i j:Nat}(hB:Bq f o p (i+1) (j+1)≠none)(h1:dj f o p i j≠Bq f o p (i+1) (j+1)):
  ∃i2 j2,(bg f o p i j)[0]?=some (aK (i2+1,j2+1))∧i2≤i∧j2≤j∧i2+j2<i+j∧Bq f o p (i2+1) (j2+1)≠none∧cC f o p (i2+1) (j2+1)=cC f o p (i+1) (j+1):=by
 by_cases h2:bp (Bq f o p i (j+1)) o=Bq f o p (i+1) (j+1)
 ·have hn:Bq f o p i (j+1)≠none:=fun z=>by rw[z]at h2;exact hB h2.symm
  cases i with
  |zero=>exact absurd (jg f o p (j+1)) hn
  |succ i=>
   refine⟨i,j,?_,by lia,by lia,by lia,hn,?_⟩
   ·unfold bg;rw[Xp h2];rfl
   ·conv=>rhs;unfold cC
    rw[Xm h1,Xp h2]
 ·have hn:Bq f o p (i+1) j≠none:=fun z=>by
   have e:Bq f o p (i+1) (j+1)=pY [dj f o p i j,bp (Bq f o p i (j+1)) o,bp (Bq f o p (i+1) j) p]:=by rw[Bq];rfl
   rw[z,show bp none p=(none:Option Int)from rfl]at e;rcases UO (dj f o p i j) (bp (Bq f o p i (j+1)) o)with k|k
   ·exact h1 (by rw[e,k])
   ·exact h2 (by rw[e,k])
  have h3:bp (Bq f o p (i+1) j) p=Bq f o p (i+1) (j+1):=by
   have e:Bq f o p (i+1) (j+1)=pY [dj f o p i j,bp (Bq f o p i (j+1)) o,bp (Bq f o p (i+1) j) p]:=by rw[Bq];rfl
   have key:∀a b c:Option Int,pY [a,b,c]≠a→pY [a,b,c]≠b→c=pY [a,b,c]:=fun a b c=>by
    cases a<;>cases b<;>cases c<;>simp[pY]<;>lia
   rw[e];exact key _ _ _ (fun z=>h1 (by rw[e];exact z.symm)) (fun z=>h2 (by rw[e];exact z.symm))
  cases j with
  |zero=>exact absurd (by unfold Bq;rfl) hn
  |succ j=>
   refine⟨i,j,?_,by lia,by lia,by lia,hn,?_⟩
   ·unfold bg;rw[Xm h2,Xp h3];rfl
   ·conv=>rhs;unfold cC
    rw[Xm h1,Xm h2]
theorem la{f:Nat→Nat→Option Int}{o p:Int}{i j:Nat}(h:g7 (Bq f o p i j)=true):0<i∧0<j∧Bq f o p i j≠none:=by
 have hn:Bq f o p i j≠none:=fun z=>by rw[z]at h;cases h
 refine⟨?_,?_,hn⟩
 ·cases i with
  |zero=>exact absurd (jg f o p j) hn
  |succ i=>omega
 ·cases j with
  |zero=>cases i with
   |zero=>exact absurd (jg f o p 0) hn
   |succ i=>exact absurd (by unfold Bq;rfl) hn
  |succ j=>omega
theorem hU{f:Nat→Nat→Option Int}{o p:Int}{i j:Nat}(h:¬g7 (Bq f o p i j)=true):∀k,eh f o p k i j=[(i,j)]
 |0=>rfl
 |k+1=>by rw[eh,Xm h]
theorem Bg(f:Nat→Nat→Option Int)(o p:Int)(i:Nat):∀k k' j,i≤k→i≤k'→eh f o p k i j=eh f o p k' i j:=by
 induction i using Nat.strongRecOn with
 |ind i ih=>
  intro k k' j h h';by_cases hg:g7 (Bq f o p i j)=true
  ·obtain⟨a,b,c⟩:=la hg;have hl:=(lI f o p i j a b).resolve_right c;obtain⟨k,rfl⟩:∃k1,k=k1+1:=⟨k-1,XB⟩
   obtain⟨k',rfl⟩:∃k1,k'=k1+1:=⟨k'-1,XB⟩
   rw[eh,eh,Xp hg,Xp hg,ih _ hl.1 k k' _ Xz (XB)]
  ·rw[hU hg,hU hg]
theorem vn{f:Nat→Nat→Option Int}{o p:Int}{i j:Nat}(h:g7 (Bq f o p i j)=true):eh f o p i i j=eh f o p (cC f o p i j).1 (cC f o p i j).1 (cC f o p i j).2++[(i,j)]:=by
 obtain⟨a,b,c⟩:=la h;have hl:=(lI f o p i j a b).resolve_right c;obtain⟨i,rfl⟩:∃k1,i=k1+1:=⟨i-1,XB⟩
 rw[eh,Xp h,Bg f o p _ i _ _ Xz (Nat.le_refl _)]
structure GI(K:W.Frag)(C:Addr):Prop where
 cl:vE K C
 worth:bQ K C "worth"
 way:bQ K C "way"
 row:bQ K C "row"
 pairs:bQ K C "pairs"
def rR(w:Int)(a r p:Addr):List (Str×V):=[("worth", .int w),("way", .ref a),("row", .ref r),("pairs", .ref p)]
theorem jI(w:Int)(a r p:Addr):(rR w a r p).lookup ("worth":Str)=some (V.int w):=by kernel_rfl
theorem jJ(w:Int)(a r p:Addr):(rR w a r p).lookup ("pairs":Str)=some (V.ref p):=by kernel_rfl
theorem Jl(w:Int)(a r p:Addr):bf "pairs" (.ref p) (bf "row" (.ref r) (bf "way" (.ref a) (bf "worth" (.int w) [])))=rR w a r p:=by kernel_rfl
inductive tS(C:Addr)(vs:List V)(H:Hp)(Q:VK)(u3:XK):Prop
 |mk (x dx a r p:Addr) (w:Int) (_:vs=[.ref x, .int w, .ref a, .ref r, .ref p]) (_:H x=some (.ins C dx [])) (_:Q .cI (upd H x (.ins C dx (rR w a r p)))):tS C vs H Q u3
inductive tT(C:Addr)(vs:List V)(H:Hp)(Q:VK)(u3:XK):Prop
 |mk (x dx a r p:Addr) (w:Int) (us:List V) (ps:List Pr) (_:vs=[.ref x]) (_:H x=some (.ins C dx (rR w a r p))) (_:H p=some (.lst us)) (_:iQ H us ps) (_:ps≠[]) (_:∀H' k t,au H H'→H' k=some (.tup [.int (-w), .ref t])→H' t=some (.tup [.int (lH ps).1, .int (lH ps).2])→Q (.ref k) H'):tT C vs H Q u3
inductive YW(C CF:Addr)(vs:List V)(H:Hp)(Q:VK)(u3:XK):Prop
 |mk (x dx e b:Addr) (es bs:List Addr) (f:Nat→Nat→Option Int) (o p:Int) (n m:Nat) (w:Int) (pr:Addr) (us:List V) (ps:List (Nat×Nat)) (q0:Nat×Nat) (_:vs=[.ref x, .int w, .ref pr]) (_:q_ H C x dx e b es bs f o p n m) (_:H pr=some (.lst us)) (_:iQ H us (ps.map aK)) (_:∀q∈ps,q.1<n∧q.2<m) (_:(ps.filter fun q=>decide (dj f o p q.1 q.2=some w))[0]?=some q0) (_:n≤1000) (_:ps.length≤5000)
  (_:∀H' y dy wy rw j4,au H H'→H y=none→H dy=none→H wy=none→H rw=none→H' y=some (.ins CF dy (rR w wy rw pr))→H' dy=some (.own y)→H' wy=some (.lst j4)→iQ H' j4 ((eh f o p q0.1 q0.1 q0.2).map aK)→H' rw=some (.lst ((eh f o p q0.1 q0.1 q0.2).map fun q=>bC (dj f o p q.1 q.2)))→Q (.ref y) H'):YW C CF vs H Q u3
theorem Ae{f:Nat→Nat→Option Int}{o p:Int}{n m:Nat}:∀k i j,i<n→j<m→∀q∈eh f o p k i j,q.1<n∧q.2<m
 |0,i,j,hi,hj,q,hq=>by
  have:q=(i,j):=by simpa[eh]using hq
  subst this;exact⟨hi,hj⟩
 |k+1,i,j,hi,hj,q,hq=>by
  by_cases h:g7 (Bq f o p i j)=true
  ·rw[eh,Xp h]at hq;obtain⟨a,b,c⟩:=la h;have hl:=(lI f o p i j a b).resolve_right c;rcases List.mem_append.mp hq with z|z
   ·exact Ae k _ _ Xz (XB) q z
   ·have:q=(i,j):=by simpa using z
    subst this;exact⟨hi,hj⟩
  ·rw[hU h]at hq;have:q=(i,j):=by simpa using hq
   subst this;exact⟨hi,hj⟩
theorem ZH{f:Nat→Nat→Option Int}{o p:Int}:∀k i j,(eh f o p k i j).length≤k+1
 |0,i,j=>by simp[eh]
 |k+1,i,j=>by
  by_cases h:g7 (Bq f o p i j)=true
  ·rw[eh,Xp h,List.length_append];have:=ZH (f:=f) (o:=o) (p:=p) k (cC f o p i j).1 (cC f o p i j).2;simp;omega
  ·rw[hU h];simp
end QF
namespace L2
open PySem PySem.Spec PyProof.Rows PySem.W PySem.Calls
section
variable{X:Cx}
inductive Fl(K:Frag)(x:V)(y:V)(H:Hp)(Q:VK):Prop
 |mk (p q:Addr) (xs ys:List V) (_:x= .ref p) (_:y= .ref q) (_:BK K H p xs) (_:BK K H q ys) (_:xs.all rP=true) (_:ys.all rP=true) (_:Q (.bl (!uv xs ys)) H):Fl K x y H Q
theorem Bh(K:Frag)(hu:X.A.units<cLine)(hK:X.K=K:=by rfl):sk X (compareOp .NotEq) (Fl K):=by
 subst hK;intro pins s σ H x y v u Q I rx ry h;obtain⟨p,q,xs,ys,rfl,rfl,hp,hq,f1,f2,k⟩:=h;cases rx;cases ry;obtain⟨its,r,pl,hz⟩:=I.tuple hp;obtain⟨fC,r2,Il,LC⟩:=I.tuple hq;have he:=Ym (A:=X.A.in1) (s:=s) r r2 f1 f2;obtain⟨⟨cls,dd,data,sl⟩,ho,hc,n,hd⟩:=id pl;obtain⟨⟨LD,Cy,data2,wU⟩,XI,vR,n2,hd2⟩:=id Il;simp only at hc hd vR hd2;subst hc hd vR hd2;refine richCompare_meets_room (op:= .NotEq) ⟨_,ho,rfl⟩ ⟨_,XI,rfl⟩ F.slot_tuple_ne F.entry_tuple_ne (F.args_tuple_ne_2 _ _) (SeqAt.tuple_neAt p q its.toArray fC.toArray n n2 dd Cy sl wU _) ⟨ho,XI,he,?_⟩ hu;have e:(!((List.range (min its.toArray.size fC.toArray.size)).all (fun j=>vL (xs.getD j .cI) (ys.getD j .cI))&&its.toArray.size==fC.toArray.size))=!uv xs ys:=by
  rw[←oO,r.length,r2.length];simp
 rw[e];exact⟨(fun x=>nomatch x), .bl (!uv xs ys),H,I,rfl,k⟩
end
end L2
namespace QF
open PySem L2
theorem cX{p q:Pr}(h:aZ p=aZ q):p=q:=by
 simp only[aZ,List.cons.injEq,Sum.inl.injEq,and_true]at h;exact Prod.ext h.1 h.2
theorem len_sub{α:Type}[DecidableEq α]:∀(l m:List α),l.Nodup→(∀x∈l,x∈m)→l.length≤m.length
 |[],m,_,_=>XE
 |x::r,m,hn,h=>by
  have BJ:=List.nodup_cons.mp hn;have hx:=h x Xy;have:=len_sub r (m.erase x) BJ.2 fun y hy=>(List.mem_erase_of_ne (fun e:y=x=>BJ.1 (by rw[←e];exact hy))).mpr (h y (by simp[hy]))
  rw[List.length_erase_of_mem hx]at this;have:=List.length_pos_of_mem hx;simp;omega
def GJ(E:Pr→Pr→Prop)(p:Pr):Pr→Pr→Prop:=fun a b=>E a b∨(a=p∧b=p)
def rg(E:Pr→Pr→Prop)(p q:Pr):Pr→Pr→Prop:=fun a b=>E a b∨((E a p∨E a q)∧(E b p∨E b q))
theorem Bi{E:Pr→Pr→Prop}{p q a b:Pr}:rg E p q a b↔rg E q p a b:=by
 unfold rg;rw[or_comm (a:=E a p),or_comm (a:=E b p)]
structure p6(S:Addr→Prop)(H:Hp)(S':Addr→Prop)(H':Hp):Prop where
 grow:∀a,S' a→S a∨H a=none
 keep:∀a o,¬S a→H a=some o→H' a=some o
theorem p6.trans{S S' NK:Addr→Prop}{H H' NL:Hp}(a:p6 S H S' H')(b:p6 S' H' NK NL):p6 S H NK NL:=by
 refine⟨fun x hx=>?_,fun x o hs hx=>b.keep x o (fun z=>?_) (a.keep x o hs hx)⟩
 ·rcases b.grow x hx with h|h
  ·exact a.grow x h
  ·by_cases hs:S x
   ·exact .inl hs
   ·right
    cases e:H x with
    |none=>rfl
    |some o=>rw[a.keep x o hs e]at h;cases h
 ·rcases a.grow x z with h|h
  ·exact hs h
  ·rw[hx]at h;cases h
theorem p6.same{S:Addr→Prop}{H H':Hp}(s:au H H'):p6 S H S H':=⟨fun _ h=> .inl h,fun a o _ h=>s a o h⟩
theorem p6.put{S:Addr→Prop}{H:Hp}{a:Addr}{o:HO}(h:S a):p6 S H S (upd H a o):=⟨fun _ h=> .inl h,fun b u hb e=>by rw[ai (fun z:b=a=>hb (by rw[z];exact h))];exact e⟩
structure L5(K:W.Frag)(C:Addr):Prop where
 cl:vE K C
 p7:bQ K C "leads"
 members:bQ K C "members"
def rS(dl dm:Addr):List (Str×V):=[("leads", .ref dl),("members", .ref dm)]
theorem ka(a b:Addr):(rS a b).lookup ("leads":Str)=some (V.ref a):=by kernel_rfl
theorem jw(a b:Addr):(rS a b).lookup ("members":Str)=some (V.ref b):=by kernel_rfl
theorem L6(a b:Addr):bf "members" (.ref b) (bf "leads" (.ref a) [])=rS a b:=by kernel_rfl
theorem L7(a b:Addr):(rS a b).lookup ("has":Str)=none:=by kernel_rfl
theorem Dv(a b:Addr):(rS a b).lookup ("take_in":Str)=none:=by kernel_rfl
theorem Af(a b:Addr):(rS a b).lookup ("unite":Str)=none:=by kernel_rfl
theorem Jm(a b:Addr):(rS a b).lookup ("told":Str)=none:=by kernel_rfl
def Jn(H:Hp)(v:Option V):Option Pr→Prop
 |none=>v=none
 |some l=>∃t,v=some (.ref t)∧H t=some (.tup (j6 l))
def Qa(H:Hp)(S:Addr→Prop)(v:Option V):Option (List Pr)→Prop
 |none=>v=none
 |some ms=>∃a us,v=some (.ref a)∧H a=some (.lst us)∧iQ H us ms∧S a
theorem Jn.cq{H H':Hp}{v:Option V}{o:Option Pr}(h:Jn H v o)(t:d6 H H'):Jn H' v o:=by
 cases o with
 |none=>exact h
 |some l=>obtain⟨a,h1,h2⟩:=h;exact⟨a,h1,t _ _ h2⟩
structure BC(H:Hp)(S:Addr→Prop)(dl dm:Addr)(kl km:List (List Key×V))(ld:Pr→Option Pr)(mm:Pr→Option (List Pr)):Prop where
 hl:H dl=some (.dT kl)
 hm:H dm=some (.dT km)
 sl:S dl
 sm:S dm
 ne:dl≠dm
 lv:∀p,Jn H (bo kl (aZ p)) (ld p)
 mv:∀p,Qa H S (bo km (aZ p)) (mm p)
 inj:∀p q a,bo km (aZ p)=some (.ref a)→bo km (aZ q)=some (.ref a)→p=q
 key:∀kv∈km,∃p,kv.1=aZ p
 Ag:(km.map (·.1)).Nodup
 ms:∀l ms,mm l=some ms→ms.Nodup∧∀p,p∈ms↔ld p=some l
 ml:∀p l,ld p=some l→∃ms,mm l=some ms
 self:∀l ms,mm l=some ms→ld l=some l
theorem BC.keep{H H':Hp}{S:Addr→Prop}{dl dm:Addr}{kl km:List (List Key×V)}{ld:Pr→Option Pr}{mm:Pr→Option (List Pr)}(d:BC H S dl dm kl km ld mm)(h:∀a o,S a→H a=some o→H' a=some o)(t:d6 H H'):BC H' S dl dm kl km ld mm:=by
 refine⟨h _ _ d.sl d.hl,h _ _ d.sm d.hm,d.sl,d.sm,d.ne,fun p=>(d.lv p).cq t,fun p=>?_,d.inj,d.key,d.Ag,d.ms,d.ml,d.self⟩;have:=d.mv p;cases e:mm p with
 |none=>rw[e]at this;exact this
 |some ms=>
  rw[e]at this;obtain⟨a,us,h1,h2,h3,h4⟩:=this;exact⟨a,us,h1,h _ _ h4 h2,h3.cq t,h4⟩
theorem BC.wR{H:Hp}{S:Addr→Prop}{dl dm:Addr}{kl km:List (List Key×V)}{ld:Pr→Option Pr}{mm:Pr→Option (List Pr)}(d:BC H S dl dm kl km ld mm){ms:List Pr}(hn:ms.Nodup)(h:∀p∈ms,∃l,ld p=some l):ms.length≤kl.length:=by
 have:=len_sub (ms.map aZ) (kl.map (·.1)) (List.Pairwise.map _ (fun a b Dx z=>Dx (cX z)) hn) fun k hk=>by
  obtain⟨p,hp,rfl⟩:=List.mem_map.mp hk;obtain⟨l,hl⟩:=h p hp;have:=d.lv p;rw[hl]at this;obtain⟨t,h1,_⟩:=this;exact Yr h1
 simpa using this
theorem BC.take{H H':Hp}{S:Addr→Prop}{dl dm a t:Addr}{kl km:List (List Key×V)}{ld:Pr→Option Pr}{mm:Pr→Option (List Pr)}{p:Pr}(d:BC H S dl dm kl km ld mm)(hn:ld p=none)(ht:H t=some (.tup (j6 p)))(ha:H a=none)
  (h1:H' dl=some (.dT (putK kl (aZ p) (.ref t)))) (h2:H' dm=some (.dT (putK km (aZ p) (.ref a)))) (h3:H' a=some (.lst [.ref t])) (hk:∀b o,b≠dl→b≠dm→H b=some o→H' b=some o):
  BC H' (fun x=>S x∨x=a) dl dm (putK kl (aZ p) (.ref t)) (putK km (aZ p) (.ref a)) (fun q=>if q=p then some p else ld q) (fun q=>if q=p then some [p]else mm q):=by
 have T:d6 H H':=fun b v hb=>hk b _ (fun z=>by rw[z,d.hl]at hb;cases hb) (fun z=>by rw[z,d.hm]at hb;cases hb) hb
 have RK:mm p=none:=by
  cases e:mm p with
  |none=>rfl
  |some ms=>have:=d.self p ms e;rw[hn]at this;cases this
 have Dy:bo km (aZ p)=none:=by have:=d.mv p;rw[RK]at this;exact this
 have L8:∀q b,bo km (aZ q)=some (.ref b)→b≠a:=fun q b hq z=>by
  have:=d.mv q;cases e:mm q with
  |none=>rw[e]at this;have:bo km (aZ q)=none:=this;rw[this]at hq;cases hq
  |some ms=>
   rw[e]at this;obtain⟨a',us,e1,e2,_⟩:=this;rw[hq]at e1;cases e1;rw[z,ha]at e2;cases e2
 refine⟨h1,h2, .inl d.sl, .inl d.sm,d.ne,fun q=>?_,fun q=>?_,fun q r b hq hr=>?_,fun kv NM=>?_,?_,fun l ms hl=>?_,fun q l hq=>?_,fun l ms hl=>?_⟩
 ·rw[jC];by_cases e:q=p
  ·rw[Xp (by rw[e]),Xp e];exact⟨t,rfl,T _ _ ht⟩
  ·rw[Xm (fun z=>e (cX z)),Xm e];exact(d.lv q).cq T
 ·show Qa _ _ _ (if q=p then some [p]else mm q);rw[jC];by_cases e:q=p
  ·rw[Xp (by rw[e]),Xp e];exact⟨a,_,rfl,h3,iQ.one (T _ _ ht), .inr rfl⟩
  ·rw[Xm (fun z=>e (cX z)),Xm e];have:=d.mv q;cases e2:mm q with
   |none=>rw[e2]at this;exact this
   |some ms=>
    rw[e2]at this;obtain⟨b,us,z1,z2,z3,z4⟩:=this;exact⟨b,us,z1,hk b _ (fun z=>by rw[z,d.hl]at z2;cases z2) (fun z=>by rw[z,d.hm]at z2;cases z2) z2,z3.cq T, .inl z4⟩
 ·rw[jC]at hq hr;by_cases e:q=p
  ·by_cases e2:r=p
   ·rw[e,e2]
   ·rw[Xp (by rw[e])]at hq;rw[Xm (fun z=>e2 (cX z))]at hr;cases hq;exact absurd rfl (L8 r _ hr)
  ·rw[Xm (fun z=>e (cX z))]at hq;by_cases e2:r=p
   ·rw[Xp (by rw[e2])]at hr;cases hr;exact absurd rfl (L8 q _ hq)
   ·rw[Xm (fun z=>e2 (cX z))]at hr;exact d.inj q r b hq hr
 ·rw[tD _ Dy]at NM;rcases List.mem_append.mp NM with z|z
  ·exact d.key kv z
  ·exact⟨p,by rw[List.mem_singleton.mp z]⟩
 ·rw[tD _ Dy,List.map_append];refine List.nodup_append.mpr ⟨d.Ag,XE,fun x hx y hy e=>?_⟩;have hy:y=aZ p:=by simpa using hy
  rw[e,hy]at hx;exact Z5 Dy hx
 ·have hl:(if l=p then some [p]else mm l)=some ms:=hl;by_cases e:l=p
  ·rw[Xp e]at hl;cases hl;refine⟨XE,fun q=>?_⟩;rw[List.mem_singleton];show q=p↔(if q=p then some p else ld q)=some l;by_cases e2:q=p
   ·rw[Xp e2,e];simp[e2]
   ·rw[Xm e2];refine⟨fun z=>absurd z e2,fun z=>?_⟩;obtain⟨ms,BD⟩:=d.ml q l z;rw[e,RK]at BD;cases BD
  ·rw[Xm e]at hl;obtain⟨z1,z2⟩:=d.ms l ms hl;refine⟨z1,fun q=>?_⟩;rw[z2];show ld q=some l↔(if q=p then some p else ld q)=some l;by_cases e2:q=p
   ·rw[Xp e2,e2,hn];refine⟨fun z=>(by cases z),fun z=>absurd (Xs z).symm e⟩
   ·rw[Xm e2]
 ·have hq:(if q=p then some p else ld q)=some l:=hq;show ∃ms,(if l=p then some [p]else mm l)=some ms;by_cases e:l=p
  ·exact⟨[p],Xp e⟩
  ·rw[Xm e];by_cases e2:q=p
   ·rw[Xp e2]at hq;exact absurd (Xs hq).symm e
   ·rw[Xm e2]at hq;exact d.ml q l hq
 ·have hl:(if l=p then some [p]else mm l)=some ms:=hl;show(if l=p then some p else ld l)=some l;by_cases e:l=p
  ·rw[Xp e,e]
  ·rw[Xm e]at hl⊢;exact d.self l ms hl
theorem Ah{κ:Type}[DecidableEq κ]{k:κ}{v:V}:∀{kvs:List (κ×V)}{i:Nat},(kvs.map (·.1)).Nodup→kvs[i]?=some (k,v)→bo kvs k=some v
 |[],i,_,h=>by simp at h
 |p::r,0,_,h=>by
  have h:p=(k,v):=by simpa using h
  subst h;exact cw rfl
 |p::r,i+1,hn,h=>by
  have BJ:=List.nodup_cons.mp (show(p.1::r.map (·.1)).Nodup from hn);have h:r[i]?=some (k,v):=by simpa using h
  rw[cb (fun e=>BJ.1 (by rw[e];exact List.mem_map.mpr ⟨_,Xj h,rfl⟩))];exact Ah BJ.2 h
theorem Yb{κ:Type}[DecidableEq κ]{k:κ}{v:V}:∀{kvs:List (κ×V)},bo kvs k=some v→∃i:Nat,kvs[i]?=some (k,v)
 |[],h=>by cases h
 |p::r,h=>by
  by_cases e:p.1=k
  ·rw[cw e]at h;exact⟨0,by simp;exact Prod.ext e (Xs h)⟩
  ·rw[cb e]at h;obtain⟨i,hi⟩:=Yb h;exact⟨i+1,by simpa using hi⟩
theorem nP{κ:Type}[DecidableEq κ](k j:κ):∀kvs:List (κ×V),bo (jB kvs k) j=if j=k then none else bo kvs j
 |[]=>by simp[jB,bo]
 |p::r=>by
  have ih:=nP k j r;unfold jB at ih⊢;rw[List.filter_cons];by_cases e:p.1=k
  ·rw[Xm (by simpa using e),ih];by_cases e2:j=k
   ·rw[Xp e2,Xp e2]
   ·rw[Xm e2,Xm e2,cb (fun z=>e2 (z.symm.trans e))]
  ·rw[Xp (by simpa using e)];by_cases e2:p.1=j
   ·rw[cw e2,Xm (fun z=>e (e2.trans z)),cw e2]
   ·rw[cb e2,ih,cb e2]
theorem BC.L9{H H':Hp}{S:Addr→Prop}{dl dm al tl:Addr}{kl uw km:List (List Key×V)}{ld:Pr→Option Pr}{mm:Pr→Option (List Pr)}{l g:Pr}{m1 m2:List Pr}{rT j4:List V}(d:BC H S dl dm kl km ld mm)(Ai:l≠g)(h1:mm l=some m1)(h2:mm g=some m2)(Aj:bo km (aZ l)=some (.ref al))(P1:iQ H rT m1)(P2:iQ H j4 m2)(OT:H al=some (.lst rT))(X':H tl=some (.tup (j6 l)))
  (Qb:∀r,bo uw (aZ r)=if r∈m2 then some (.ref tl)else bo kl (aZ r)) (e1:H' dl=some (.dT uw)) (e2:H' dm=some (.dT (jB km (aZ g)))) (e3:H' al=some (.lst (rT++j4))) (hk:∀b o,b≠dl→b≠dm→b≠al→H b=some o→H' b=some o):
  BC H' S dl dm uw (jB km (aZ g)) (fun r=>if r∈m2 then some l else ld r) (fun r=>if r=g then none else if r=l then some (m1++m2)else mm r):=by
 have T:d6 H H':=fun b v hb=>hk b _ (fun z=>by rw[z,d.hl]at hb;cases hb) (fun z=>by rw[z,d.hm]at hb;cases hb) (fun z=>by rw[z,OT]at hb;cases hb) hb
 obtain⟨n1,q1⟩:=d.ms l m1 h1;obtain⟨n2,q2⟩:=d.ms g m2 h2;refine⟨e1,e2,d.sl,d.sm,d.ne,fun r=>?_,fun r=>?_,fun p q a hp hq=>?_,fun kv NM=>d.key kv (List.mem_filter.mp NM).1,d.Ag.sublist (List.filter_sublist.map _),fun x ms hx=>?_,fun p x hp=>?_,fun x ms hx=>?_⟩
 ·show Jn H' _ (if r∈m2 then some l else ld r);rw[Qb];by_cases e:r∈m2
  ·rw[Xp e,Xp e];exact⟨tl,rfl,T _ _ X'⟩
  ·rw[Xm e,Xm e];exact(d.lv r).cq T
 ·show Qa H' S _ (if r=g then none else if r=l then some (m1++m2)else mm r);rw[nP];by_cases e:r=g
  ·rw[Xp (by rw[e]),Xp e];rfl
  ·rw[Xm (fun z=>e (cX z)),Xm e];by_cases e4:r=l
   ·rw[Xp e4,e4,Aj];have:=d.mv l;rw[h1]at this;obtain⟨a,us,z1,_,_,z4⟩:=this;rw[Aj]at z1;cases z1;exact⟨al,_,rfl,e3,(P1.append P2).cq T,z4⟩
   ·rw[Xm e4];have:=d.mv r;cases e5:mm r with
    |none=>rw[e5]at this;exact this
    |some ms=>
     rw[e5]at this;obtain⟨a,us,z1,z2,z3,z4⟩:=this;exact⟨a,us,z1,hk a _ (fun z=>by rw[z,d.hl]at z2;cases z2) (fun z=>by rw[z,d.hm]at z2;cases z2) (fun z=>e4 (d.inj r l al (by rw[z1,z]) Aj)) z2,z3.cq T,z4⟩
 ·rw[nP]at hp hq;by_cases e:p=g
  ·rw[Xp (by rw[e])]at hp;cases hp
  ·by_cases e4:q=g
   ·rw[Xp (by rw[e4])]at hq;cases hq
   ·rw[Xm (fun z=>e (cX z))]at hp;rw[Xm (fun z=>e4 (cX z))]at hq;exact d.inj p q a hp hq
 ·have hx:(if x=g then none else if x=l then some (m1++m2)else mm x)=some ms:=hx;by_cases e:x=g
  ·rw[Xp e]at hx;cases hx
  ·rw[Xm e]at hx;by_cases e4:x=l
   ·rw[Xp e4]at hx;cases hx;refine⟨List.nodup_append.mpr ⟨n1,n2,fun a ha b hb z=>?_⟩,fun p=>?_⟩
    ·have ha:=(q1 a).mp ha;have hb:=(q2 b).mp hb;rw[z,hb]at ha;exact Ai (Xs ha).symm
    ·rw[List.mem_append];show p∈m1∨p∈m2↔(if p∈m2 then some l else ld p)=some x;rw[e4];by_cases e5:p∈m2
     ·rw[Xp e5];simp[e5]
     ·rw[Xm e5,←q1];simp[e5]
   ·rw[Xm e4]at hx;obtain⟨z1,z2⟩:=d.ms x ms hx;refine⟨z1,fun p=>?_⟩;rw[z2];show ld p=some x↔(if p∈m2 then some l else ld p)=some x;by_cases e5:p∈m2
    ·rw[Xp e5,(q2 p).mp e5];exact⟨fun z=>absurd (Xs z).symm e,fun z=>absurd (Xs z).symm e4⟩
    ·rw[Xm e5]
 ·have hp:(if p∈m2 then some l else ld p)=some x:=hp;show ∃ms,(if x=g then none else if x=l then some (m1++m2)else mm x)=some ms;by_cases e5:p∈m2
  ·rw[Xp e5]at hp;cases hp;exact⟨m1++m2,by rw[Xm Ai,if_pos rfl]⟩
  ·rw[Xm e5]at hp;have hg:x≠g:=fun z=>e5 ((q2 p).mpr (by rw[hp,z]))
   by_cases e4:x=l
   ·exact⟨m1++m2,by rw[Xm hg,Xp e4]⟩
   ·obtain⟨ms,BD⟩:=d.ml p x hp;exact⟨ms,by rw[Xm hg,Xm e4];exact BD⟩
 ·have hx:(if x=g then none else if x=l then some (m1++m2)else mm x)=some ms:=hx;show(if x∈m2 then some l else ld x)=some x;by_cases e:x=g
  ·rw[Xp e]at hx;cases hx
  ·rw[Xm e]at hx;have RL:ld x=some x:=by
    by_cases e4:x=l
    ·rw[e4];exact d.self l m1 h1
    ·rw[Xm e4]at hx;exact d.self x ms hx
   have:x∉m2:=fun z=>by
    have:=(q2 x).mp z;rw[RL]at this;exact e (Xs this)
   rw[Xm this,RL]
theorem Jo{ld:Pr→Option Pr}{l g p q:Pr}{m2:List Pr}(Ai:l≠g)(hp:ld p=some l)(hq:ld q=some g)(q2:∀r,r∈m2↔ld r=some g){E:Pr→Pr→Prop}(hE:∀a b,E a b↔∃x,ld a=some x∧ld b=some x)(a b:Pr):
  rg E p q a b↔∃x,(if a∈m2 then some l else ld a)=some x∧(if b∈m2 then some l else ld b)=some x:=by
 have A:∀c,(E c p∨E c q)↔(if c∈m2 then some l else ld c)=some l:=fun c=>by
  rw[hE,hE,hp,hq];by_cases e:c∈m2
  ·rw[Xp e,(q2 c).mp e];simp
  ·rw[Xm e];have:ld c≠some g:=fun z=>e ((q2 c).mpr z)
   constructor
   ·rintro(⟨x,h1,h2⟩|⟨x,h1,h2⟩)
    ·cases h2;exact h1
    ·cases h2;exact absurd h1 this
   ·exact fun z=> .inl ⟨l,z,rfl⟩
 unfold rg;rw[A,A,hE];constructor
 ·rintro(⟨x,h1,h2⟩|⟨h1,h2⟩)
  ·by_cases e:x=g
   ·subst e;exact⟨l,by rw[Xp ((q2 a).mpr h1)],by rw[Xp ((q2 b).mpr h2)]⟩
   ·exact⟨x,by rw[Xm (fun z=>e (by have:=(q2 a).mp z;rw[h1]at this;exact Xs this))];exact h1,by rw[Xm (fun z=>e (by have:=(q2 b).mp z;rw[h2]at this;exact Xs this))];exact h2⟩
  ·exact⟨l,h1,h2⟩
 ·rintro⟨x,h1,h2⟩;by_cases e:x=l
  ·subst e;exact .inr ⟨h1,h2⟩
  ·left
   refine⟨x,?_,?_⟩
   ·by_cases e2:a∈m2
    ·rw[Xp e2]at h1;exact absurd (Xs h1).symm e
    ·rw[Xm e2]at h1;exact h1
   ·by_cases e2:b∈m2
    ·rw[Xp e2]at h2;exact absurd (Xs h2).symm e
    ·rw[Xm e2]at h2;exact h2
def kz(H:Hp)(C g:Addr)(S:Addr→Prop)(E:Pr→Pr→Prop)(B:Nat):Prop:=
 ∃dg dl dm kl km ld mm,H g=some (.ins C dg (rS dl dm))∧¬S g∧BC H S dl dm kl km ld mm∧(∀a b,E a b↔∃l,ld a=some l∧ld b=some l)∧kl.length≤B∧km.length≤B
theorem kz.keep{H H':Hp}{C g:Addr}{S:Addr→Prop}{E:Pr→Pr→Prop}{B:Nat}(G:kz H C g S E B)(h:∀a o,S a→H a=some o→H' a=some o)(t:d6 H H')(hg:∀o,H g=some o→H' g=some o):kz H' C g S E B:=by
 obtain⟨dg,dl,dm,kl,km,ld,mm,a1,a2,a3,a4⟩:=G;exact⟨dg,dl,dm,kl,km,ld,mm,hg _ a1,a2,a3.keep h t,a4⟩
theorem kz.same{H H':Hp}{C g:Addr}{S:Addr→Prop}{E:Pr→Pr→Prop}{B:Nat}(G:kz H C g S E B)(s:au H H'):kz H' C g S E B:=G.keep (fun a o _ h=>s a o h) (d6.same s) (fun o h=>s _ _ h)
theorem kz.iff{H:Hp}{C g:Addr}{S:Addr→Prop}{E E':Pr→Pr→Prop}{B B':Nat}(G:kz H C g S E B)(h:∀a b,E' a b↔E a b)(hB:B≤B'):kz H C g S E' B':=by
 obtain⟨dg,dl,dm,kl,km,ld,mm,a1,a2,a3,a4,a5,a6⟩:=G;exact⟨dg,dl,dm,kl,km,ld,mm,a1,a2,a3,fun a b=>(h a b).trans (a4 a b),XB,XB⟩
structure Told(E:Pr→Pr→Prop)(gs:List (List Pr)):Prop where
 sV:∀ps∈gs,ps.Pairwise fun p q=>iE p q=true
 ne:∀ps∈gs,ps≠[]
 cls:∀ps∈gs,∀a∈ps,∀b,b∈ps↔E a b
 all:∀a,E a a→∃ps∈gs,a∈ps
 apart:gs.Pairwise fun ps qs=>∀a∈ps,a∉qs
inductive tU(C:Addr)(vs:List V)(H:Hp)(Q:VK)(u3:XK):Prop
 |mk (x dx:Addr) (_:vs=[.ref x]) (_:H x=some (.ins C dx [])) (_:∀H' S,SameBut x H H'→(∀a,S a→H a=none)→kz H' C x S (fun _ _=>False) 0→Q .cI H'):tU C vs H Q u3
inductive YU(C:Addr)(vs:List V)(H:Hp)(Q:VK)(u3:XK):Prop
 |mk (x t:Addr) (p:Pr) (S:Addr→Prop) (E:Pr→Pr→Prop) (B:Nat) (_:vs=[.ref x, .ref t]) (_:kz H C x S E B) (_:H t=some (.tup (j6 p))) (_:∀b:Bool,(b=true↔E p p)→Q (.bl b) H):YU C vs H Q u3
inductive wt(C:Addr)(vs:List V)(H:Hp)(Q:VK)(u3:XK):Prop
 |mk (x t:Addr) (p:Pr) (S:Addr→Prop) (E:Pr→Pr→Prop) (B:Nat) (_:vs=[.ref x, .ref t]) (_:kz H C x S E B) (_:H t=some (.tup (j6 p))) (_:B≤10000) (_:∀H' S',p6 S H S' H'→kz H' C x S' (GJ E p) (B+1)→Q .cI H'):wt C vs H Q u3
inductive tV(C:Addr)(vs:List V)(H:Hp)(Q:VK)(u3:XK):Prop
 |mk (x t u:Addr) (p q:Pr) (S:Addr→Prop) (E:Pr→Pr→Prop) (B:Nat) (_:vs=[.ref x, .ref t, .ref u]) (_:kz H C x S E B) (_:H t=some (.tup (j6 p))) (_:H u=some (.tup (j6 q))) (_:E p p) (_:E q q) (_:B≤10000) (_:∀H',p6 S H S H'→kz H' C x S (rg E p q) B→Q .cI H'):tV C vs H Q u3
inductive wu(C:Addr)(vs:List V)(H:Hp)(Q:VK)(u3:XK):Prop
 |mk (x:Addr) (S:Addr→Prop) (E:Pr→Pr→Prop) (B:Nat) (_:vs=[.ref x]) (_:kz H C x S E B) (_:B<10000) (_:∀H' r us gs,p6 S H S H'→H r=none→H' r=some (.lst us)→gj H' us gs→(∀(k:Nat) a,us[k]?=some (.ref a)→H a=none)→Told E gs→Q (.ref r) H'):wu C vs H Q u3
theorem YQ(g:Pr→Option Int)(o i:Int){as:List Pr}(f9:as≠[])(q:Pr)(bs:List Pr):vl g o i (as++q::bs)=vl g o i as-gp o i (lstP as) q+vl g o i (q::bs):=by
 rw[wg,sT g o i f9];omega
theorem Wy.app{g:Pr→Option Int}{as:List Pr}{q:Pr}{bs:List Pr}(a:Wy g as)(b:Wy g (q::bs))(s:X3 (lstP as) q):Wy g (as++q::bs):=by
 refine⟨XE,fun x hx=>?_,List.pairwise_append.mpr ⟨a.up,b.up,fun x hx y hy=>?_⟩⟩
 ·rcases List.mem_append.mp hx with h|h
  ·exact a.ok x h
  ·exact b.ok x h
 ·have h1:X3 x q:=by
   rcases pw_lst a.up hx with e|e
   ·rw[e];exact s
   ·exact qX e s
  rcases List.mem_cons.mp hy with e|e
  ·rw[e];exact h1
  ·exact qX h1 ((List.pairwise_cons.mp b.up).1 y e)
theorem Wy.left{g:Pr→Option Int}{as bs:List Pr}(w:Wy g (as++bs))(h:as≠[]):Wy g as:=⟨h,fun x hx=>w.ok x (List.mem_append_left _ hx),(List.pairwise_append.mp w.up).1⟩
theorem Wy.right{g:Pr→Option Int}{as bs:List Pr}(w:Wy g (as++bs))(h:bs≠[]):Wy g bs:=⟨h,fun x hx=>w.ok x (List.mem_append_right _ hx),(List.pairwise_append.mp w.up).2.1⟩
section
variable(f:Nat→Nat→Option Int)(o p W:Int)
def BW(ps:List Pr):Prop:=Wy (lf f) ps∧vl (lf f) o p ps=W
def eR:Prop:=∀ps,Wy (lf f) ps→vl (lf f) o p ps≤W
inductive gY:Pr→Pr→Prop
 |way {a b:Pr} (ps:List Pr) (_:BW f o p W ps) (_:a∈ps) (_:b∈ps):gY a b
 |tr {a b c:Pr} (_:gY a b) (_:gY b c):gY a c
def ux(as:List Pr)(x y:Int):Int:=vl (lf f) o p as-(o*(x-1-(lstP as).1)+p*(y-1-(lstP as).2))
def L_(q:Pr)(bs:List Pr)(x y:Int):Int:=vl (lf f) o p (q::bs)-(o*(q.1-x)+p*(q.2-y))
def Over(x y:Int)(r:Pr):Prop:=∃as q bs,Wy (lf f) as∧Wy (lf f) (q::bs)∧(lstP as).1<x∧(lstP as).2<y∧x≤q.1∧y≤q.2∧vl (lf f) o p (as++q::bs)=W∧r∈q::bs
end
section
variable{f:Nat→Nat→Option Int}{o p W:Int}
theorem gY.symm{a b:Pr}(h:gY f o p W a b):gY f o p W b a:=by
 induction h with
 |way ps h1 h2 h3=>exact .way ps h1 h3 h2
 |tr _ _ i1 i2=>exact .tr i2 i1
theorem gY.left{a b:Pr}(h:gY f o p W a b):gY f o p W a a:= .tr h h.symm
theorem gY.on{a b:Pr}(h:gY f o p W a b):∃ps,BW f o p W ps∧a∈ps:=by
 induction h with
 |way ps h1 h2 h3=>exact⟨ps,h1,h2⟩
 |tr _ _ i1 _=>exact i1
theorem oS{as:List Pr}{q:Pr}{bs:List Pr}(f9:as≠[])(x y:Int):vl (lf f) o p (as++q::bs)=ux f o p as x y+L_ f o p q bs x y:=by
 rw[YQ _ _ _ f9];unfold ux L_ gp;have e1:q.1-(lstP as).1-1=(x-1-(lstP as).1)+(q.1-x):=XB;have e2:q.2-(lstP as).2-1=(y-1-(lstP as).2)+(q.2-y):=XB;rw[e1,e2,Int.mul_add,Int.mul_add];omega
theorem nQ(T:eR f o p W){as wW:List Pr}{q:Pr}{bs:List Pr}{x y:Int}(a:Wy (lf f) as)(b:Wy (lf f) (q::bs))(h3:x≤q.1)(h4:y≤q.2)(hW:vl (lf f) o p (as++q::bs)=W)
  (a':Wy (lf f) wW) (l1:(lstP wW).1<x) (l2:(lstP wW).2<y) (hb:ux f o p as x y≤ux f o p wW x y):BW f o p W (wW++q::bs):=by
 have w:=a'.app b ⟨XB,XB⟩;refine⟨w,?_⟩;have:=T _ w;rw[oS a'.ne x y]at this⊢;rw[oS a.ne x y]at hW;omega
theorem wz{as:List Pr}{i j:Nat}(a:Wy (lf f) as)(l1:(lstP as).1<(i:Int))(l2:(lstP as).2<(j:Int)):∃b,Bq f o p i j=some b∧ux f o p as i j≤b:=by
 have m:=f' f o p i j;cases e:Bq f o p i j with
 |none=>rw[e]at m;exact absurd ⟨as,a,l1,l2,rfl⟩ (m _)
 |some b=>rw[e]at m;exact⟨b,rfl,m.2 _ ⟨as,a,l1,l2,rfl⟩⟩
theorem wA{i j:Nat}{b:Int}(e:Bq f o p i j=some b):∃as,Wy (lf f) as∧(lstP as).1<(i:Int)∧(lstP as).2<(j:Int)∧ux f o p as i j=b:=by
 have m:=f' f o p i j;rw[e]at m;obtain⟨as,h1,h2,h3,h4⟩:=m.1;exact⟨as,h1,h2,h3,h4.symm⟩
theorem nS{i j:Nat}{b:Int}(e:dj f o p i j=some b):∃as,Wy (lf f) as∧lstP as=aK (i,j)∧vl (lf f) o p as=b:=by
 have m:=tP f o p i j;rw[e]at m;obtain⟨as,h1,h2,h3⟩:=m.1;exact⟨as,h1,h2,h3.symm⟩
theorem wB{as:List Pr}{i j:Nat}(a:Wy (lf f) as)(l:lstP as=aK (i,j)):∃b,dj f o p i j=some b∧vl (lf f) o p as≤b:=by
 have m:=tP f o p i j;cases e:dj f o p i j with
 |none=>rw[e]at m;exact absurd ⟨as,a,l,rfl⟩ (m _)
 |some b=>rw[e]at m;exact⟨b,rfl,m.2 _ ⟨as,a,l,rfl⟩⟩
theorem Dz{i j:Nat}(e:dj f o p i j=some W):gY f o p W (aK (i,j)) (aK (i,j)):=by
 obtain⟨as,h1,h2,h3⟩:=nS e;have:aK (i,j)∈as:=by rw[←h2];exact cH h1.ne
 exact .way as ⟨h1,h3⟩ this this
theorem Bj(T:eR f o p W){i j:Nat}{r:Pr}(h:Over f o p W ((i+1:Nat):Int) ((j+1:Nat):Int) r)(e:dj f o p i j=Bq f o p (i+1) (j+1)):gY f o p W (aK (i,j)) r:=by
 obtain⟨as,q,bs,a,b,l1,l2,l3,l4,hW,hr⟩:=h;obtain⟨v,hv,hle⟩:=wz (o:=o) (p:=p) a l1 l2;rw[hv]at e;obtain⟨wW,a',k1,k2⟩:=nS e;have hb:ux f o p wW ((i+1:Nat):Int) ((j+1:Nat):Int)=v:=by
  unfold ux;rw[k1,k2];have e1:((i+1:Nat):Int)-1-(aK (i,j)).1=0:=by show((i+1:Nat):Int)-1-(i:Int)=0;omega
  have e2:((j+1:Nat):Int)-1-(aK (i,j)).2=0:=by show((j+1:Nat):Int)-1-(j:Int)=0;omega
  rw[e1,e2,Int.mul_zero,Int.mul_zero];omega
 have:=nQ T a b l3 l4 hW a' (by rw[k1];simp[aK];omega) (by rw[k1];simp[aK];omega) (by rw[hb];exact hle);refine .way _ this (List.mem_append_left _ ?_) (List.mem_append_right _ hr);rw[←k1];exact cH a'.ne
theorem rV(T:eR f o p W){i j x y:Nat}{r:Pr}{c:Int}(h:Over f o p W ((i+1:Nat):Int) ((j+1:Nat):Int) r)(hx:x≤i+1)(hy:y≤j+1)(hc:c=o*((i+1:Nat)-x:Int)+p*((j+1:Nat)-y:Int))(e:bp (Bq f o p x y) c=Bq f o p (i+1) (j+1)):Over f o p W (x:Int) (y:Int) r:=by
 obtain⟨as,q,bs,a,b,l1,l2,l3,l4,hW,hr⟩:=h;obtain⟨v,hv,hle⟩:=wz (o:=o) (p:=p) a l1 l2;rw[hv]at e;cases e2:Bq f o p x y with
 |none=>rw[e2]at e;cases e
 |some v2=>
  rw[e2]at e;have e:v2-c=v:=by simpa[bp]using e
  obtain⟨wW,a',k1,k2,k3⟩:=wA e2;have hb:ux f o p wW ((i+1:Nat):Int) ((j+1:Nat):Int)=v:=by
   unfold ux at k3⊢;have e1:((i+1:Nat):Int)-1-(lstP wW).1=((x:Int)-1-(lstP wW).1)+((i+1:Nat)-x:Int):=by lia
   have e2:((j+1:Nat):Int)-1-(lstP wW).2=((y:Int)-1-(lstP wW).2)+((j+1:Nat)-y:Int):=by lia
   rw[e1,e2,Int.mul_add,Int.mul_add]
   lia
  have:=nQ T a b l3 l4 hW a' Xu (by lia) (by rw[hb];exact hle);exact⟨wW,q,bs,a',b,k1,k2,by lia,by lia,this.2,hr⟩
theorem Fm(T:eR f o p W){i j:Nat}(h:gY f o p W (aK (i,j)) (aK (i,j)))(g:g7 (Bq f o p i j)=true):Over f o p W (i:Int) (j:Int) (aK (i,j)):=by
 obtain⟨ws,⟨hw,hW⟩,hm⟩:=h.on;obtain⟨u,v,rfl⟩:=List.append_of_mem hm;cases e:Bq f o p i j with
 |none=>rw[e]at g;cases g
 |some b=>
  rw[e]at g;have g:0≤b:=by simpa[g7]using g
  obtain⟨as,a,k1,k2,k3⟩:=wA e;have hr:Wy (lf f) (aK (i,j)::v):=hw.right Xy;have ws:=a.app hr ⟨k1,k2⟩;have hle:=T _ ws;have cv:=oS (f:=f) (o:=o) (p:=p) (q:=aK (i,j)) (bs:=v) a.ne (i:Int) (j:Int);have ha:L_ f o p (aK (i,j)) v (i:Int) (j:Int)=vl (lf f) o p (aK (i,j)::v):=by
   unfold L_;have e1:(aK (i,j)).1-(i:Int)=0:=by simp[aK]
   have e2:(aK (i,j)).2-(j:Int)=0:=by simp[aK]
   rw[e1,e2,Int.mul_zero,Int.mul_zero];omega
  have WH:W≤b+vl (lf f) o p (aK (i,j)::v):=by
   by_cases hu:u=[]
   ·subst hu;simp only[List.nil_append]at hW;omega
   ·have cu:=oS (f:=f) (o:=o) (p:=p) (q:=aK (i,j)) (bs:=v) hu (i:Int) (j:Int);have NN:Wy (lf f) u:=hw.left hu;have hs:X3 (lstP u) (aK (i,j)):=(List.pairwise_append.mp hw.up).2.2 _ (cH hu) _ Xy;obtain⟨b2,wC,UP⟩:=wz (o:=o) (p:=p) NN (i:=i) (j:=j) hs.1 hs.2;rw[e]at wC;cases wC;omega
  exact⟨as,aK (i,j),v,a,hr,k1,k2,by simp[aK],by simp[aK],XB,XE⟩
theorem over_over(T:eR f o p W){x y:Int}{r r':Pr}(h:Over f o p W x y r)(h':Over f o p W x y r'):gY f o p W r r':=by
 obtain⟨as,q,bs,a,b,l1,l2,l3,l4,hW,hr⟩:=h;obtain⟨wW,q',UQ,a',b',k1,k2,k3,k4,RM,Jp⟩:=h';have w1:BW f o p W (as++q::bs):=⟨a.app b ⟨XB,XB⟩,hW⟩
 have w2:BW f o p W (wW++q'::UQ):=⟨a'.app b' ⟨XB,XB⟩,RM⟩
 by_cases hb:ux f o p as x y≤ux f o p wW x y
 ·have:=nQ T a b l3 l4 hW a' k1 k2 hb;exact .tr (.way (b:=lstP wW) _ this (List.mem_append_right _ hr) (List.mem_append_left _ (cH a'.ne))) (.way _ w2 (List.mem_append_left _ (cH a'.ne)) (List.mem_append_right _ Jp))
 ·have:=nQ T a' b' k3 k4 RM a l1 l2 Xz;exact .tr (.way (b:=lstP as) _ w1 (List.mem_append_right _ hr) (List.mem_append_left _ (cH a.ne))) (.way _ this (List.mem_append_left _ (cH a.ne)) (List.mem_append_right _ Jp))
theorem between(T:eR f o p W){u v:List Pr}{q r:Nat×Nat}(w:BW f o p W (u++aK q::aK r::v)):
  (∀x y:Nat,q.1<x→q.2<y→x≤r.1→y≤r.2→Bq f o p x y=some (ux f o p (u++[aK q]) x y))∧dj f o p q.1 q.2=some (vl (lf f) o p (u++[aK q]))∧0≤ux f o p (u++[aK q]) r.1 r.2:=by
 obtain⟨w,hW⟩:=w;have e:u++aK q::aK r::v=(u++[aK q])++aK r::v:=XE;rw[e]at w hW;have hl:Wy (lf f) (u++[aK q]):=w.left Xy;have hr:Wy (lf f) (aK r::v):=w.right Xy;have ls:lstP (u++[aK q])=aK q:=d8;have uR:X3 (aK q) (aK r):=by
  have:=(List.pairwise_append.mp w.up).2.2 _ (cH hl.ne) (aK r) (XE);rw[ls]at this;exact this
 refine⟨fun x y h1 h2 h3 h4=>?_,?_,?_⟩
 ·have c1:(lstP (u++[aK q])).1<(x:Int):=by rw[ls];simp[aK];omega
  have c2:(lstP (u++[aK q])).2<(y:Int):=by rw[ls];simp[aK];omega
  obtain⟨b,hb,hle⟩:=wz (o:=o) (p:=p) hl c1 c2;rw[hb]
  congr 1
  obtain⟨as,a,k1,k2,k3⟩:=wA hb;have wa:=a.app hr ⟨by simp[aK];omega,by simp[aK];omega⟩;have:=T _ wa;rw[oS a.ne (x:Int) (y:Int)]at this;rw[oS hl.ne (x:Int) (y:Int)]at hW;omega
 ·obtain⟨b,hb,hle⟩:=wB (o:=o) (p:=p) hl (i:=q.1) (j:=q.2) ls;rw[hb]
  congr 1
  obtain⟨as,a,k1,k2⟩:=nS hb;have wa:=a.app hr (by rw[k1];exact uR);have:=T _ wa;rw[YQ _ _ _ a.ne,k1,show aK (q.1,q.2)=aK q from rfl]at this;rw[YQ _ _ _ hl.ne,ls]at hW;omega
 ·have:=T _ hr;rw[oS hl.ne (r.1:Int) (r.2:Int)]at hW;unfold L_ at hW;have e1:(aK r).1-(r.1:Int)=0:=by simp[aK]
  have e2:(aK r).2-(r.2:Int)=0:=by simp[aK]
  rw[e1,e2,Int.mul_zero,Int.mul_zero]at hW;omega
end
abbrev GS:=(Pr→Pr→Prop)×(Pr→Option Pr)
def X1(s:GS)(c r:Pr):GS:=
 match s.2 c with
 |some r0=>(rg s.1 r0 r,s.2)
 |none=>(s.1,fun x=>if x=c then some r else s.2 x)
section
variable(f:Nat→Nat→Option Int)(o p W:Int)
def GK(i j:Nat)(s:GS)(r:Pr):GS:=(if dj f o p i j=Bq f o p (i+1) (j+1)then rg (GJ s.1 (aK (i,j))) (aK (i,j)) r else s.1,s.2)
def Jq(i j:Nat)(s:GS)(r:Pr):GS:=(bg f o p i j).foldl (fun s c=>X1 s c r) (GK f o p i j s r)
def Fn(i j:Nat)(s:GS):GS:=(if dj f o p i j=some W then GJ s.1 (aK (i,j))else s.1,s.2)
def BE(i j:Nat)(s:GS):GS:=
 match s.2 (aK (i+1,j+1))with
 |some r=>Jq f o p i j (Fn f o p W i j s) r
 |none=>Fn f o p W i j s
open Classical in
noncomputable def X2(i j:Nat)(s:GS):GS:=if (BE f o p W i j s).1 (aK (i,j)) (aK (i,j))∧g7 (Bq f o p i j)=true then X1 (BE f o p W i j s) (aK (i,j)) (aK (i,j))else BE f o p W i j s
structure iS(s:GS):Prop where
 sy:∀a b,s.1 a b→s.1 b a
 tr:∀a b c,s.1 a b→s.1 b c→s.1 a c
 hg:∀a b,s.1 a b→gY f o p W a b
 mr:∀c r,s.2 c=some r→s.1 r r∧∃i j:Nat,c=aK (i,j)∧Over f o p W (i:Int) (j:Int) r
end
structure Gw(s s':GS)(N:Pr→Prop)(M:Pr→Prop):Prop where
 e:∀a b,s.1 a b→s'.1 a b
 n:∀a,s'.1 a a→s.1 a a∨N a
 m:∀c r,s.2 c=some r→s'.2 c=some r
 k:∀c r,s'.2 c=some r→s.2 c=some r∨M c
theorem Gw.refl{s:GS}{N M:Pr→Prop}:Gw s s N M:=⟨fun _ _ h=>h,fun _ h=> .inl h,fun _ _ h=>h,fun _ _ h=> .inl h⟩
theorem Gw.trans{s s' vG:GS}{N M:Pr→Prop}(a:Gw s s' N M)(b:Gw s' vG N M):Gw s vG N M:=
 ⟨fun x y h=>b.e x y (a.e x y h),fun x h=>(b.n x h).elim (a.n x) .inr,fun c r h=>b.m c r (a.m c r h),fun c r h=>(b.k c r h).elim (a.k c r) .inr⟩
theorem Gw.wide{s s':GS}{N M N' M':Pr→Prop}(a:Gw s s' N M)(hN:∀x,N x→N' x)(hM:∀x,M x→M' x):Gw s s' N' M':=⟨a.e,fun x h=>(a.n x h).imp id (hN x),a.m,fun c r h=>(a.k c r h).imp id (hM c)⟩
section
variable{f:Nat→Nat→Option Int}{o p W:Int}{s:GS}
theorem iS.RN(k:iS f o p W s){a b:Pr}(ha:s.1 a a)(hb:s.1 b b)(h:gY f o p W a b):iS f o p W (rg s.1 a b,s.2):=by
 have hc:∀c,s.1 c a∨s.1 c b→gY f o p W c a:=fun c h'=>h'.elim (k.hg c a) fun z=> .tr (k.hg c b z) h.symm
 refine⟨fun x y h=>?_,fun x y z h1 h2=>?_,fun x y h=>?_,fun c r h=>⟨.inl (k.mr c r h).1,(k.mr c r h).2⟩⟩
 ·exact h.imp (k.sy x y) fun h=>⟨h.2,h.1⟩
 ·rcases h1 with h1|⟨h1,J7⟩
  ·rcases h2 with h2|⟨h2,Gr⟩
   ·exact .inl (k.tr _ _ _ h1 h2)
   ·exact .inr ⟨h2.imp (k.tr _ _ _ h1) (k.tr _ _ _ h1),Gr⟩
  ·rcases h2 with h2|⟨h2,Gr⟩
   ·exact .inr ⟨h1,J7.imp (k.tr _ _ _ (k.sy _ _ h2)) (k.tr _ _ _ (k.sy _ _ h2))⟩
   ·exact .inr ⟨h1,Gr⟩
 ·rcases h with h|⟨h1,h2⟩
  ·exact k.hg x y h
  ·exact .tr (hc x h1) (hc y h2).symm
theorem iS.take(k:iS f o p W s){a:Pr}(h:gY f o p W a a):iS f o p W (GJ s.1 a,s.2):=by
 refine⟨fun x y h=>?_,fun x y z h1 h2=>?_,fun x y h'=>?_,fun c r h=>⟨.inl (k.mr c r h).1,(k.mr c r h).2⟩⟩
 ·exact h.imp (k.sy x y) fun h=>⟨h.2,h.1⟩
 ·rcases h1 with h1|⟨h1,J7⟩
  ·rcases h2 with h2|⟨h2,Gr⟩
   ·exact .inl (k.tr _ _ _ h1 h2)
   ·subst h2 Gr;exact .inl h1
  ·subst h1 J7;exact h2
 ·rcases h' with h'|⟨h1,h2⟩
  ·exact k.hg x y h'
  ·subst h1 h2;exact h
theorem DA(sy:∀a b,s.1 a b→s.1 b a)(tr:∀a b c,s.1 a b→s.1 b c→s.1 a c){a b:Pr}:Gw s (rg s.1 a b,s.2) (fun _=>False) (fun _=>False):=by
 refine⟨fun _ _ h=> .inl h,fun x h=> .inl ?_,fun _ _ h=>h,fun _ _ h=> .inl h⟩;rcases h with h|⟨h,_⟩
 ·exact h
 ·exact h.elim (fun z=>tr _ _ _ z (sy _ _ z)) fun z=>tr _ _ _ z (sy _ _ z)
theorem iS.mark(T:eR f o p W)(k:iS f o p W s){i j:Nat}{r:Pr}(hr:s.1 r r)(ov:Over f o p W (i:Int) (j:Int) r):iS f o p W (X1 s (aK (i,j)) r):=by
 unfold X1;cases e:s.2 (aK (i,j))with
 |some r0=>
  obtain⟨h1,i2,j2,h2,h3⟩:=k.mr _ _ e;have h2:(i:Int)=i2∧(j:Int)=j2:=by simpa[aK]using h2
  rw[←h2.1,←h2.2]at h3;exact k.RN h1 hr (over_over T h3 ov)
 |none=>
  refine⟨k.sy,k.tr,k.hg,fun c r' h=>?_⟩;have h:(if c=aK (i,j)then some r else s.2 c)=some r':=h;by_cases e2:c=aK (i,j)
  ·rw[Xp e2]at h;cases h;exact⟨hr,i,j,e2,ov⟩
  ·rw[Xm e2]at h;exact k.mr c r' h
theorem GL(k:iS f o p W s){c r:Pr}:Gw s (X1 s c r) (fun _=>False) (·=c):=by
 unfold X1;cases e:s.2 c with
 |some r0=>exact(DA k.sy k.tr).wide (fun _ h=>h) fun _ h=>h.elim
 |none=>
  refine⟨fun _ _ h=>h,fun _ h=> .inl h,fun c' r' h=>?_,fun c' r' h=>?_⟩
  ·show(if c'=c then some r else s.2 c')=some r';rw[Xm (fun z=>by rw[z,e]at h;cases h)];exact h
  ·have h:(if c'=c then some r else s.2 c')=some r':=h;by_cases e2:c'=c
   ·exact .inr e2
   ·rw[Xm e2]at h;exact .inl h
theorem DB(k:iS f o p W s){c r:Pr}(hr:s.1 r r):∃r',(X1 s c r).2 c=some r'∧(X1 s c r).1 r r':=by
 unfold X1;cases e:s.2 c with
 |some r0=>exact⟨r0,e, .inr ⟨.inr hr, .inl (k.mr _ _ e).1⟩⟩
 |none=>exact⟨r,XE,hr⟩
theorem tW(T:eR f o p W){r:Pr}:∀(cs:List Pr)(s:GS),iS f o p W s→s.1 r r→(∀c∈cs,∃i j:Nat,c=aK (i,j)∧Over f o p W (i:Int) (j:Int) r)→
  iS f o p W (cs.foldl (fun s c=>X1 s c r) s)∧Gw s (cs.foldl (fun s c=>X1 s c r) s) (fun _=>False) (·∈cs)∧∀c∈cs,∃r',(cs.foldl (fun s c=>X1 s c r) s).2 c=some r'∧(cs.foldl (fun s c=>X1 s c r) s).1 r r'
 |[],s,k,_,_=>⟨k, .refl,fun c h=>by cases h⟩
 |c::cs,s,k,hr,h=>by
  obtain⟨i,j,rfl,ov⟩:=h c Xy;have k1:=k.mark T hr ov;have g1:=GL k (c:=aK (i,j)) (r:=r);obtain⟨r',m1,m2⟩:=DB k (c:=aK (i,j)) hr;obtain⟨a1,a2,a3⟩:=tW T cs _ k1 (g1.e _ _ hr) fun c hc=>h c (by simp[hc])
  refine⟨a1,(g1.wide (fun _ h=>h) fun x hx=>?_).trans (a2.wide (fun _ h=>h) fun x hx=>?_),fun c hc=>?_⟩
  ·show x∈_::_;rw[hx];simp
  ·exact List.mem_cons_of_mem _ hx
  ·rcases List.mem_cons.mp hc with rfl|hc
   ·exact⟨r',a2.m _ _ m1,a2.e _ _ m2⟩
   ·exact a3 c hc
theorem rW(T:eR f o p W){i j:Nat}{r:Pr}(h:Over f o p W ((i+1:Nat):Int) ((j+1:Nat):Int) r):∀c∈bg f o p i j,∃x y:Nat,c=aK (x,y)∧Over f o p W (x:Int) (y:Int) r:=by
 intro c hc;unfold bg at hc;rcases List.mem_append.mp hc with hc|hc
 ·split at hc
  ·rename_i e
   have:c=aK (i,j+1):=by simpa[aK]using hc
   refine⟨i,j+1,this,rV T h Xz (XB) ?_ e⟩;have e1:((i+1:Nat):Int)-(i:Int)=1:=XB;have e2:((j+1:Nat):Int)-((j+1:Nat):Int)=0:=XB;rw[e1,e2];omega
  ·cases hc
 ·split at hc
  ·rename_i e
   have:c=aK (i+1,j):=by simpa[aK]using hc
   refine⟨i+1,j,this,rV T h Xz (XB) ?_ e⟩;have e1:((i+1:Nat):Int)-((i+1:Nat):Int)=0:=XB;have e2:((j+1:Nat):Int)-(j:Int)=1:=XB;rw[e1,e2];omega
  ·cases hc
theorem DC(T:eR f o p W)(k:iS f o p W s){i j:Nat}{r:Pr}(hr:s.1 r r)(ov:Over f o p W ((i+1:Nat):Int) ((j+1:Nat):Int) r):
  iS f o p W (GK f o p i j s r)∧Gw s (GK f o p i j s r) (·=aK (i,j)) (·∈bg f o p i j)∧(dj f o p i j=Bq f o p (i+1) (j+1)→(GK f o p i j s r).1 (aK (i,j)) r):=by
 unfold GK;by_cases e:dj f o p i j=Bq f o p (i+1) (j+1)
 ·rw[Xp e];have h:=Bj T ov e;have k1:=k.take h.left;have k2:=k1.RN (a:=aK (i,j)) (b:=r) (.inr ⟨rfl,rfl⟩) (.inl hr) h;refine⟨k2,⟨fun a b h=> .inl (.inl h),fun a h=>?_,fun _ _ h=>h,fun _ _ h=> .inl h⟩,fun _=> .inr ⟨.inl (.inr ⟨rfl,rfl⟩), .inr (.inl hr)⟩⟩;rcases(DA (s:=(GJ s.1 (aK (i,j)),s.2)) k1.sy k1.tr).n a h with h|h
  ·exact h.imp id And.left
  ·exact h.elim
 ·rw[Xm e];exact⟨⟨k.sy,k.tr,k.hg,k.mr⟩, .refl,fun z=>absurd z e⟩
theorem L'(T:eR f o p W)(k:iS f o p W s){i j:Nat}{r:Pr}(hr:s.1 r r)(ov:Over f o p W ((i+1:Nat):Int) ((j+1:Nat):Int) r):
  iS f o p W (Jq f o p i j s r)∧Gw s (Jq f o p i j s r) (·=aK (i,j)) (·∈bg f o p i j)∧(dj f o p i j=Bq f o p (i+1) (j+1)→(Jq f o p i j s r).1 (aK (i,j)) r)∧∀c∈bg f o p i j,∃r',(Jq f o p i j s r).2 c=some r'∧(Jq f o p i j s r).1 r r':=by
 obtain⟨b1,b2,b3⟩:=DC T k hr ov;obtain⟨a1,a2,a3⟩:=tW T (bg f o p i j) _ b1 (b2.e _ _ hr) (rW T ov);exact⟨a1,b2.trans (a2.wide (fun _ h=>h.elim) fun _ h=>h),fun e=>a2.e _ _ (b3 e),a3⟩
theorem DD(k:iS f o p W s)(i j:Nat):iS f o p W (Fn f o p W i j s)∧Gw s (Fn f o p W i j s) (·=aK (i,j)) (fun _=>False)∧(dj f o p i j=some W→(Fn f o p W i j s).1 (aK (i,j)) (aK (i,j))):=by
 unfold Fn;by_cases e:dj f o p i j=some W
 ·rw[Xp e];exact⟨k.take (Dz e),⟨fun _ _ h=> .inl h,fun _ h=>h.imp id And.left,fun _ _ h=>h,fun _ _ h=> .inl h⟩,fun _=> .inr ⟨rfl,rfl⟩⟩
 ·rw[Xm e];exact⟨⟨k.sy,k.tr,k.hg,k.mr⟩, .refl,fun z=>absurd z e⟩
def Jr(f:Nat→Nat→Option Int)(o p:Int)(i j:Nat)(c:Pr):Prop:=c∈bg f o p i j∨c=aK (i,j)
theorem DE(T:eR f o p W)(k:iS f o p W s)(i j:Nat):iS f o p W (BE f o p W i j s)∧Gw s (BE f o p W i j s) (·=aK (i,j)) (Jr f o p i j)∧(dj f o p i j=some W→(BE f o p W i j s).1 (aK (i,j)) (aK (i,j)))∧∀r,s.2 (aK (i+1,j+1))=some r→
  (dj f o p i j=Bq f o p (i+1) (j+1)→(BE f o p W i j s).1 (aK (i,j)) r)∧∀c∈bg f o p i j,∃r',(BE f o p W i j s).2 c=some r'∧(BE f o p W i j s).1 r r':=by
 obtain⟨k1,g1,e1⟩:=DD k i j;unfold BE;cases e:s.2 (aK (i+1,j+1))with
 |none=>exact⟨k1,g1.wide (fun _ h=>h) fun _ h=>h.elim,e1,fun r h=>by cases h⟩
 |some r=>
  obtain⟨h1,i2,j2,h2,h3⟩:=k.mr _ _ e;have h2:((i+1:Nat):Int)=i2∧((j+1:Nat):Int)=j2:=by simpa[aK]using h2
  rw[←h2.1,←h2.2]at h3;obtain⟨a1,a2,a3,a4⟩:=L' T k1 (g1.e _ _ h1) h3;refine⟨a1,(g1.wide (fun _ h=>h) fun _ h=>h.elim).trans (a2.wide (fun _ h=>h) fun _ h=> .inl h),fun z=>a2.e _ _ (e1 z),fun r' h=>?_⟩;cases h;exact⟨a3,a4⟩
theorem Ma(T:eR f o p W)(k:iS f o p W s)(i j:Nat):iS f o p W (X2 f o p W i j s)∧Gw s (X2 f o p W i j s) (·=aK (i,j)) (Jr f o p i j)∧(dj f o p i j=some W→(X2 f o p W i j s).1 (aK (i,j)) (aK (i,j)))∧(∀r,s.2 (aK (i+1,j+1))=some r→
  (dj f o p i j=Bq f o p (i+1) (j+1)→(X2 f o p W i j s).1 (aK (i,j)) r)∧∀c∈bg f o p i j,∃r',(X2 f o p W i j s).2 c=some r'∧(X2 f o p W i j s).1 r r')∧
  ((X2 f o p W i j s).1 (aK (i,j)) (aK (i,j))→g7 (Bq f o p i j)=true→∃r,(X2 f o p W i j s).2 (aK (i,j))=some r∧(X2 f o p W i j s).1 (aK (i,j)) r):=by
 obtain⟨k1,g1,e1,o1⟩:=DE T k i j;unfold X2;split
 ·rename_i h
  have k2:=k1.mark T h.1 (Fm T (k1.hg _ _ h.1) h.2);have g2:=GL k1 (c:=aK (i,j)) (r:=aK (i,j));refine⟨k2,g1.trans (g2.wide (fun _ h=>h.elim) fun _ h=> .inr h),fun z=>g2.e _ _ (e1 z),fun r hr=>?_,fun _ _=>DB k1 h.1⟩;obtain⟨a1,a2⟩:=o1 r hr;refine⟨fun z=>g2.e _ _ (a1 z),fun c hc=>?_⟩;obtain⟨r',b1,b2⟩:=a2 c hc;exact⟨r',g2.m _ _ b1,g2.e _ _ b2⟩
 ·rename_i h
  exact⟨k1,g1,e1,o1,fun h1 h2=>absurd ⟨h1,h2⟩ h⟩
end
structure Vd(f:Nat→Nat→Option Int)(o p W:Int)(V:Nat→Nat→Prop)(s:GS):Prop where
 ok:iS f o p W s
 UR:∀a,s.1 a a→∃i j:Nat,a=aK (i,j)∧V i j
 en:∀i j,V i j→dj f o p i j=some W→s.1 (aK (i,j)) (aK (i,j))
 on:∀i j,V i j→s.1 (aK (i,j)) (aK (i,j))→g7 (Bq f o p i j)=true→∃r,s.2 (aK (i,j))=some r∧s.1 (aK (i,j)) r
 ov:∀i j r,V i j→s.2 (aK (i+1,j+1))=some r→(dj f o p i j=Bq f o p (i+1) (j+1)→s.1 (aK (i,j)) r)∧∀c∈bg f o p i j,∃r',s.2 c=some r'∧s.1 r r'
theorem jh{a b c d:Nat}(h:aK (a,b)=aK (c,d)):a=c∧b=d:=by
 have h:(a:Int)=c∧(b:Int)=d:=by simpa[aK]using h
 omega
theorem DF{f:Nat→Nat→Option Int}{o p:Int}{i j a b:Nat}(h:Jr f o p i j (aK (a+1,b+1))):(a+1=i∧b+1=j)∨(a+1=i∧b=j)∨(a=i∧b+1=j):=by
 rcases h with h|h
 ·unfold bg at h;rcases List.mem_append.mp h with h|h
  ·split at h
   ·have:aK (a+1,b+1)=aK (i,j+1):=by simpa[aK]using h
    have:=jh this;omega
   ·cases h
  ·split at h
   ·have:aK (a+1,b+1)=aK (i+1,j):=by simpa[aK]using h
    have:=jh this;omega
   ·cases h
 ·have:=jh h;omega
def Vb(n m i j:Nat)(a b:Nat):Prop:=a<n∧b<m∧(i<a∨(i=a∧j≤b))
theorem Vd.start(f:Nat→Nat→Option Int)(o p W:Int)(n m:Nat):Vd f o p W (Vb n m n 0) (fun _ _=>False,fun _=>none):=by
 have no:∀a b,¬Vb n m n 0 a b:=fun a b ⟨h1,_,h2⟩=>XB
 exact⟨⟨fun _ _ h=>h.elim,fun _ _ _ h=>h.elim,fun _ _ h=>h.elim,fun _ _ h=>(by cases h)⟩,fun _ h=>h.elim,fun i j h=>absurd h (no i j),fun i j h=>absurd h (no i j),fun i j r h=>absurd h (no i j)⟩
theorem Vd.turn{f:Nat→Nat→Option Int}{o p W:Int}{n m i:Nat}{s:GS}(v:Vd f o p W (Vb n m (i+1) 0) s):Vd f o p W (Vb n m i m) s:=by
 have e:Vb n m (i+1) 0=Vb n m i m:=by
  funext a b
  simp only[Vb,eq_iff_iff];omega
 rw[←e];exact v
theorem Vd.next{f:Nat→Nat→Option Int}{o p W:Int}{n m i j:Nat}{s:GS}(T:eR f o p W)(hi:i<n)(hj:j<m)(v:Vd f o p W (Vb n m i (j+1)) s):Vd f o p W (Vb n m i j) (X2 f o p W i j s):=by
 obtain⟨k,g,e,ov,on⟩:=Ma T v.ok i j;have cut:∀a b,Vb n m i j a b→(a=i∧b=j)∨Vb n m i (j+1) a b:=fun a b h=>by
  unfold Vb at h⊢
  lia
 have old:∀a b r,Vb n m i j a b→(X2 f o p W i j s).2 (aK (a+1,b+1))=some r→s.2 (aK (a+1,b+1))=some r:=fun a b r h hr=>by
  rcases g.k _ _ hr with z|z
  ·exact z
  ·have:=DF z;unfold Vb at h
   lia
 refine⟨k,fun a ha=>?_,fun a b h he=>?_,fun a b h h1 h2=>?_,fun a b r h hr=>?_⟩
 ·rcases g.n a ha with z|z
  ·obtain⟨x,y,h1,h2⟩:=v.UR a z;exact⟨x,y,h1,by unfold Vb at h2⊢;lia⟩
  ·exact⟨i,j,z,by unfold Vb;lia⟩
 ·rcases cut a b h with⟨rfl,rfl⟩|h'
  ·exact e he
  ·exact g.e _ _ (v.en a b h' he)
 ·rcases cut a b h with⟨rfl,rfl⟩|h'
  ·exact on h1 h2
  ·have hs:s.1 (aK (a,b)) (aK (a,b)):=by
    rcases g.n _ h1 with z|z
    ·exact z
    ·have:=jh z;unfold Vb at h'
     lia
   obtain⟨r,z1,z2⟩:=v.on a b h' hs h2;exact⟨r,g.m _ _ z1,g.e _ _ z2⟩
 ·have Jp:=old a b r h hr;rcases cut a b h with⟨rfl,rfl⟩|h'
  ·exact ov r Jp
  ·obtain⟨z1,z2⟩:=v.ov a b r h' Jp;refine⟨fun z=>g.e _ _ (z1 z),fun c hc=>?_⟩;obtain⟨r',y1,y2⟩:=z2 c hc;exact⟨r',g.m _ _ y1,g.e _ _ y2⟩
theorem kC{f:Nat→Nat→Option Int}{n m:Nat}(t:Bx f n m){ps:List Pr}(w:Wy (lf f) ps){a:Pr}(h:a∈ps):∃i j:Nat,a=aK (i,j)∧i<n∧j<m:=by
 have hs:=w.ok a h;obtain⟨i,j,rfl⟩:=ZF hs;rw[qY]at hs;obtain⟨h1,h2⟩:=t i j hs;exact⟨i,j,rfl,h1,h2⟩
theorem Vd.step{f:Nat→Nat→Option Int}{o p W:Int}{n m:Nat}{s:GS}(T:eR f o p W)(v:Vd f o p W (Vb n m 0 0) s){us vs:List Pr}{q r:Nat×Nat}(w:BW f o p W (us++aK q::aK r::vs))(hr:r.1<n)(X5:r.2<m)(hq:q.1<r.1)(Mb:q.2<r.2)(hE:s.1 (aK r) (aK r)):s.1 (aK q) (aK r):=by
 obtain⟨b1,b2,b3⟩:=between T w;have ok:=v.ok;have V0:∀a b,a<n→b<m→Vb n m 0 0 a b:=fun a b h1 h2=>⟨h1,h2,by lia⟩
 have top:=b1 r.1 r.2 hq Mb (Nat.le_refl _) (Nat.le_refl _);obtain⟨r0,m0,e0⟩:=v.on r.1 r.2 (V0 _ _ hr X5) hE (by rw[top];simpa[g7]using b3);have US:∀x y:Nat,ux f o p (us++[aK q]) (x:Int) (y:Int)-o=ux f o p (us++[aK q]) ((x+1:Nat):Int) (y:Int):=fun x y=>by
  unfold ux;have e1:((x+1:Nat):Int)-1-(lstP (us++[aK q])).1=((x:Int)-1-(lstP (us++[aK q])).1)+1:=by lia
  rw[e1,Int.mul_add];lia
 have UT:∀x y:Nat,ux f o p (us++[aK q]) (x:Int) (y:Int)-p=ux f o p (us++[aK q]) (x:Int) ((y+1:Nat):Int):=fun x y=>by
  unfold ux;have e1:((y+1:Nat):Int)-1-(lstP (us++[aK q])).2=((y:Int)-1-(lstP (us++[aK q])).2)+1:=by lia
  rw[e1,Int.mul_add];lia
 have go:∀d x y:Nat,(r.1-x)+(r.2-y)=d→q.1<x→q.2<y→x≤r.1→y≤r.2→∃r',s.2 (aK (x,y))=some r'∧s.1 (aK r) r':=by
  intro d
  induction d with
  |zero=>
   intro x y hd h1 h2 h3 h4;have:x=r.1:=by lia
   have:y=r.2:=by lia
   subst x y;exact⟨r0,m0,e0⟩
  |succ d ih=>
   intro x y hd h1 h2 h3 h4;by_cases hx:x<r.1
   ·obtain⟨r1,m1,e1⟩:=ih (x+1) y Xu (by lia) h2 Xu h4;obtain⟨y,rfl⟩:∃y',y=y'+1:=⟨y-1,by lia⟩
    obtain⟨_,z⟩:=v.ov x y r1 (V0 _ _ Xu (by lia)) m1;have hc:aK (x,y+1)∈bg f o p x y:=by
     unfold bg;refine List.mem_append_left _ ?_;rw[if_pos]
     ·simp[aK]
     ·rw[b1 x (y+1) h1 h2 h3 h4,b1 (x+1) (y+1) (by lia) h2 Xu h4];simp only[bp];rw[US]
    obtain⟨r2,m2,e2⟩:=z _ hc;exact⟨r2,m2,ok.tr _ _ _ e1 e2⟩
   ·obtain⟨r1,m1,e1⟩:=ih x (y+1) (by lia) h1 Xu h3 Xu;obtain⟨x,rfl⟩:∃x',x=x'+1:=⟨x-1,by lia⟩
    obtain⟨_,z⟩:=v.ov x y r1 (V0 _ _ Xu (by lia)) m1;have hc:aK (x+1,y)∈bg f o p x y:=by
     unfold bg;refine List.mem_append_right _ ?_;rw[if_pos]
     ·simp[aK]
     ·rw[b1 (x+1) y h1 h2 h3 h4,b1 (x+1) (y+1) h1 Xu h3 Xu];simp only[bp];rw[UT]
    obtain⟨r2,m2,e2⟩:=z _ hc;exact⟨r2,m2,ok.tr _ _ _ e1 e2⟩
 obtain⟨r1,m1,e1⟩:=go _ (q.1+1) (q.2+1) rfl (by lia) (by lia) (by lia) (by lia);obtain⟨z,_⟩:=v.ov q.1 q.2 r1 (V0 _ _ Xu (by lia)) m1;have:=z (by
  rw[b2,b1 (q.1+1) (q.2+1) (by lia) (by lia) (by lia) (by lia)]
  congr 1
  unfold ux;rw[d8];have z1:((q.1+1:Nat):Int)-1-(aK q).1=0:=by show((q.1+1:Nat):Int)-1-(q.1:Int)=0;lia
  have z2:((q.2+1:Nat):Int)-1-(aK q).2=0:=by show((q.2+1:Nat):Int)-1-(q.2:Int)=0;lia
  rw[z1,z2,Int.mul_zero,Int.mul_zero];lia)
 exact ok.tr _ _ _ this (ok.sy _ _ e1)
theorem Vd.all{f:Nat→Nat→Option Int}{o p W:Int}{n m:Nat}{s:GS}(T:eR f o p W)(t:Bx f n m)(v:Vd f o p W (Vb n m 0 0) s){ws:List Pr}(w:BW f o p W ws):
  ∀(vs us:List Pr),ws=us++vs→vs≠[]→∀a∈vs,s.1 a (lH vs)
 |[],_,_,h=>absurd rfl h
 |[l],us,e,_=>fun a ha=>by
  have ha:a=l:=by simpa using ha
  subst ha;show s.1 a a;obtain⟨i,j,rfl,hi,hj⟩:=kC t w.1 (a:=a) (by rw[e];simp);have hl:lstP ws=aK (i,j):=by rw[e];exact d8
  obtain⟨b,hb,hle⟩:=wB (o:=o) (p:=p) w.1 hl;obtain⟨as,a1,a2,a3⟩:=nS hb;have:=T _ a1;have hW:=w.2;exact v.en i j ⟨hi,hj,XB⟩ (by rw[hb];congr 1;omega)
 |q::r::vs,us,e,_=>fun a ha=>by
  have ih:=Vd.all T t v w (r::vs) (us++[q]) (by rw[e];simp) (XE);have Kd:s.1 r r:=ih r Xy;have ok:=v.ok;obtain⟨i,j,hq,hi,hj⟩:=kC t w.1 (a:=q) (by rw[e];simp);obtain⟨x,y,hr,hx,hy⟩:=kC t w.1 (a:=r) (by rw[e];simp);have uR:X3 q r:=by
   have:=w.1.up;rw[e]at this;exact(List.pairwise_cons.mp (List.pairwise_append.mp this).2.1).1 r Xy
  rw[hq,hr]at uR;have h1:(i:Int)<x:=uR.1;have h2:(j:Int)<y:=uR.2;rw[e,hq,hr]at w;have key:=v.step T w (q:=(i,j)) (r:=(x,y)) hx hy (by show i<x;omega) (by show j<y;omega) (by rw[←hr];exact Kd);rw[←hq,←hr]at key;show s.1 a q;rcases List.mem_cons.mp ha with rfl|ha
  ·exact ok.tr _ _ _ key (ok.sy _ _ key)
  ·exact ok.tr _ _ _ (ih a ha) (ok.sy _ _ key)
theorem Vd.Qc{f:Nat→Nat→Option Int}{o p W:Int}{n m:Nat}{s:GS}(T:eR f o p W)(t:Bx f n m)(v:Vd f o p W (Vb n m 0 0) s)(a b:Pr):s.1 a b↔gY f o p W a b:=by
 refine⟨v.ok.hg a b,fun h=>?_⟩
 induction h with
 |way ps w h1 h2=>
  have k:=Vd.all T t v w ps [] rfl w.1.ne;exact v.ok.tr _ _ _ (k _ h1) (v.ok.sy _ _ (k _ h2))
 |tr _ _ i1 i2=>exact v.ok.tr _ _ _ i1 i2
theorem Told.iff{E E':Pr→Pr→Prop}{gs:List (List Pr)}(t:Told E gs)(h:∀a b,E a b↔E' a b):Told E' gs:=
 ⟨t.sV,t.ne,fun ps hp a ha b=>(t.cls ps hp a ha b).trans (h a b),fun a ha=>t.all a ((h a a).mpr ha),t.apart⟩
def NT(H:Hp)(a:Addr):Prop:=∃o,H a=some o∧∀v,o≠ .tup v
theorem NT.same{H H':Hp}{a:Addr}(h:NT H a)(s:au H H'):NT H' a:=let ⟨o,h1,h2⟩:=h;⟨o,s _ _ h1,h2⟩
theorem p6.cq{S S':Addr→Prop}{H H':Hp}(u:p6 S H S' H')(h:∀a,S a→NT H a):d6 H H':=fun t v e=>u.keep t _ (fun z=>by
 obtain⟨o,h1,h2⟩:=h t z;rw[e]at h1;cases h1;exact h2 v rfl) e
theorem p6.out{S S':Addr→Prop}{H H':Hp}(u:p6 S H S' H'){a:Addr}{o:HO}(h:¬S a)(e:H a=some o):¬S' a:=fun z=>by
 rcases u.grow a z with z|z
 ·exact h z
 ·rw[e]at z;cases z
theorem kz.nt{H:Hp}{C g:Addr}{S:Addr→Prop}{E:Pr→Pr→Prop}{B:Nat}(G:kz H C g S E B):kz H C g (fun a=>S a∧NT H a) E B:=by
 obtain⟨dg,dl,dm,kl,km,ld,mm,a1,a2,D,a4⟩:=G;refine⟨dg,dl,dm,kl,km,ld,mm,a1,fun z=>a2 z.1,⟨D.hl,D.hm,⟨D.sl,_,D.hl,fun v=>(XE)⟩,⟨D.sm,_,D.hm,fun v=>(XE)⟩,D.ne,D.lv,fun p=>?_,D.inj,D.key,D.Ag,D.ms,D.ml,D.self⟩,a4⟩;have:=D.mv p;cases e:mm p with
 |none=>rw[e]at this;exact this
 |some ms=>
  rw[e]at this;obtain⟨a,us,h1,h2,h3,h4⟩:=this;exact⟨a,us,h1,h2,h3,h4,_,h2,fun v=>(XE)⟩
structure GN(K:W.Frag)(C:Addr):Prop where
 cl:vE K C
 tX:bQ K C "trails"
 worth:bQ K C "worth"
 groups:bQ K C "groups"
 marks:bQ K C "marks"
def kD(tr:Addr)(W:Int)(g dk:Addr):List (Str×V):=[("trails", .ref tr),("worth", .int W),("groups", .ref g),("marks", .ref dk)]
theorem nU(a:Addr)(W:Int)(b c:Addr):(kD a W b c).lookup ("trails":Str)=some (V.ref a):=by kernel_rfl
theorem DG(a:Addr)(W:Int)(b c:Addr):(kD a W b c).lookup ("worth":Str)=some (V.int W):=by kernel_rfl
theorem jx(a:Addr)(W:Int)(b c:Addr):(kD a W b c).lookup ("groups":Str)=some (V.ref b):=by kernel_rfl
theorem mT(a:Addr)(W:Int)(b c:Addr):(kD a W b c).lookup ("marks":Str)=some (V.ref c):=by kernel_rfl
theorem Ak(a:Addr)(W:Int)(b c:Addr):(kD a W b c).lookup ("mark":Str)=none:=by kernel_rfl
theorem Fo(a:Addr)(W:Int)(b c:Addr):(kD a W b c).lookup ("go_over":Str)=none:=by kernel_rfl
theorem DH(a:Addr)(W:Int)(b c:Addr):(kD a W b c).lookup ("visit":Str)=none:=by kernel_rfl
theorem Js(a:Addr)(W:Int)(b c:Addr):bf "marks" (.ref c) (bf "groups" (.ref b) (bf "worth" (.int W) (bf "trails" (.ref a) [])))=kD a W b c:=by kernel_rfl
structure Jt(H:Hp)(C CG x tr:Addr)(W:Int)(S:Addr→Prop)(s:GS)(B M:Nat)(dx g dk:Addr)(km:List (List Key×V))(S1:Addr→Prop):Prop where
 ob:H x=some (.ins C dx (kD tr W g dk))
 gr:kz H CG g S1 s.1 B
 hk:H dk=some (.dT km)
 mv:∀c,Jn H (bo km (aZ c)) (s.2 c)
 len:km.length≤M
 sS:∀a,S a↔S1 a∨a=dk
 Ag:¬S1 dk
 nx:¬S x
 ng:¬S g
 nt:∀a,S a→NT H a
def iT(H:Hp)(C CG x tr:Addr)(W:Int)(S:Addr→Prop)(s:GS)(B M:Nat):Prop:=∃dx g dk km S1,Jt H C CG x tr W S s B M dx g dk km S1
theorem iT.nt{H:Hp}{C CG x tr:Addr}{W:Int}{S:Addr→Prop}{s:GS}{B M:Nat}(G:iT H C CG x tr W S s B M):∀a,S a→NT H a:=let ⟨_,_,_,_,_,D⟩:=G;D.nt
theorem iT.same{H H':Hp}{C CG x tr:Addr}{W:Int}{S:Addr→Prop}{s:GS}{B M:Nat}(G:iT H C CG x tr W S s B M)(t:au H H'):iT H' C CG x tr W S s B M:=by
 obtain⟨dx,g,dk,km,S1,D⟩:=G;exact⟨dx,g,dk,km,S1,t _ _ D.ob,D.gr.same t,t _ _ D.hk,fun c=>(D.mv c).cq (d6.same t),D.len,D.sS,D.Ag,D.nx,D.ng,fun a h=>(D.nt a h).same t⟩
theorem iT.out{H:Hp}{C CG x tr:Addr}{W:Int}{S:Addr→Prop}{s:GS}{B M:Nat}(G:iT H C CG x tr W S s B M){a:Addr}(h:H a=none):¬S a:=fun z=>by
 obtain⟨o,e,_⟩:=G.nt a z;rw[h]at e;cases e
theorem iT.cast{H:Hp}{C CG x tr:Addr}{W:Int}{S:Addr→Prop}{s s':GS}{B M B' M':Nat}(G:iT H C CG x tr W S s B M)(h:s=s')(hB:B≤B')(hM:M≤M'):iT H C CG x tr W S s' B' M':=by
 subst h;obtain⟨dx,g,dk,km,S1,D⟩:=G;exact⟨dx,g,dk,km,S1,D.ob,D.gr.iff (fun _ _=>Iff.rfl) hB,D.hk,D.mv,by have:=D.len;omega,D.sS,D.Ag,D.nx,D.ng,D.nt⟩
section
variable{H H':Hp}{C CG x tr dx g dk:Addr}{W:Int}{S S1 Ju:Addr→Prop}{s:GS}{B M B':Nat}{km:List (List Key×V)}
theorem Jt.NO(D:Jt H C CG x tr W S s B M dx g dk km S1){E':Pr→Pr→Prop}(u:p6 S1 H Ju H')(G:kz H' CG g Ju E' B'):∃S' S2,p6 S H S' H'∧Jt H' C CG x tr W S' (E',s.2) B' M dx g dk km S2:=by
 have s1:∀a,S1 a→S a:=fun a h=>(D.sS a).mpr (.inl h)
 have UU:∀a,S1 a→NT H a:=fun a h=>D.nt a (s1 a h)
 have T:=u.cq UU;have CH:=u.keep dk _ D.Ag D.hk;obtain⟨dg,dl,dm,kl,Fp,ld,mm,og,_⟩:=id D.gr;have gone:∀{a o},¬S a→H a=some o→a≠dk→¬((Ju a∧NT H' a)∨a=dk):=fun{a o} h1 h2 h3 z=>by
  rcases z with z|z
  ·exact u.out (fun y=>h1 (s1 _ y)) h2 z.1
  ·exact h3 z
 have XY:S dk:=(D.sS dk).mpr (.inr rfl);refine⟨fun a=>(Ju a∧NT H' a)∨a=dk,fun a=>Ju a∧NT H' a,⟨fun a h=>?_,fun a o h e=>u.keep a o (fun z=>h (s1 a z)) e⟩,⟨u.keep x _ (fun z=>D.nx (s1 _ z)) D.ob,G.nt,CH,fun c=>(D.mv c).cq T,D.len,fun a=>Iff.rfl,fun z=>u.out D.Ag D.hk z.1,gone D.nx D.ob (fun z=>D.nx (by rw[z];exact XY)),gone D.ng og (fun z=>D.ng (by rw[z];exact XY)),fun a h=>?_⟩⟩
 ·rcases h with h|h
  ·exact(u.grow a h.1).imp (s1 a) id
  ·exact .inl (by rw[h];exact XY)
 ·rcases h with h|h
  ·exact h.2
  ·exact⟨_,by rw[h];exact CH,fun v=>(XE)⟩
theorem Jt.put(D:Jt H C CG x tr W S s B M dx g dk km S1){c r:Pr}{t:Addr}(ht:H t=some (.tup (j6 r))):p6 S H S (upd H dk (.dT (putK km (aZ c) (.ref t))))∧Jt (upd H dk (.dT (putK km (aZ c) (.ref t)))) C CG x tr W S (s.1,fun y=>if y=c then some r else s.2 y) B (M+1) dx g dk (putK km (aZ c) (.ref t)) S1:=by
 have XY:S dk:=(D.sS dk).mpr (.inr rfl);have nx:x≠dk:=fun z=>D.nx (by rw[z];exact XY)
 have ng:g≠dk:=fun z=>D.ng (by rw[z];exact XY)
 have T:d6 H (upd H dk (.dT (putK km (aZ c) (.ref t)))):=fun b v hb=>by
  rw[ai (fun z=>by rw[z,D.hk]at hb;cases hb)];exact hb
 refine⟨.put XY,⟨by rw[ai nx];exact D.ob,D.gr.keep (fun a o h e=>by rw[ai (fun z=>D.Ag (by rw[←z];exact h))];exact e) T (fun o e=>by rw[ai ng];exact e),ae,fun y=>?_,Nat.le_trans (eO _ _ _) (by have:=D.len;omega),D.sS,D.Ag,D.nx,D.ng,fun a h=>?_⟩⟩
 ·show Jn _ _ (if y=c then some r else s.2 y);rw[jC];by_cases e:y=c
  ·rw[Xp (by rw[e]),Xp e];exact⟨t,rfl,T _ _ ht⟩
  ·rw[Xm (fun z=>e (cX z)),Xm e];exact(D.mv y).cq T
 ·by_cases e:a=dk
  ·exact⟨_,by rw[e];exact ae,fun v=>(XE)⟩
  ·obtain⟨o,h1,h2⟩:=D.nt a h;exact⟨o,by rw[ai e];exact h1,h2⟩
end
structure Base(H0 H:Hp)(S:Addr→Prop):Prop where
 same:au H0 H
 free:∀a,S a→H0 a=none
theorem Base.ups{H0 H H':Hp}{S S':Addr→Prop}(b:Base H0 H S)(u:p6 S H S' H'):Base H0 H' S':=by
 refine⟨fun a o h=>u.keep a o (fun z=>by rw[b.free a z]at h;cases h) (b.same a o h),fun a h=>?_⟩;rcases u.grow a h with z|z
 ·exact b.free a z
 ·exact b.same.free z
theorem Base.more{H0 H H':Hp}{S:Addr→Prop}(b:Base H0 H S)(s:au H H'):Base H0 H' S:=⟨b.same.trans s,b.free⟩
inductive rh(C CG:Addr)(vs:List V)(H:Hp)(Q:VK)(u3:XK):Prop
 |mk (x dx tr:Addr) (W:Int) (_:vs=[.ref x, .ref tr, .int W]) (_:H x=some (.ins C dx [])) (_:∀H' S,SameBut x H H'→(∀a,S a→H a=none)→iT H' C CG x tr W S (fun _ _=>False,fun _=>none) 0 0→Q .cI H'):rh C CG vs H Q u3
inductive tY(C CG:Addr)(vs:List V)(H:Hp)(Q:VK)(u3:XK):Prop
 |mk (x tc tp tr:Addr) (W:Int) (c r:Pr) (S:Addr→Prop) (s:GS) (B M:Nat) (_:vs=[.ref x, .ref tc, .ref tp]) (_:iT H C CG x tr W S s B M) (_:H tc=some (.tup (j6 c))) (_:H tp=some (.tup (j6 r))) (_:s.1 r r) (_:∀r0,s.2 c=some r0→s.1 r0 r0) (_:B≤10000) (_:M≤10000) (_:∀H' S',p6 S H S' H'→iT H' C CG x tr W S' (X1 s c r) B (M+1)→Q .cI H'):tY C CG vs H Q u3
inductive tZ(C CG CT:Addr)(vs:List V)(H:Hp)(Q:VK)(u3:XK):Prop
 |mk (x tc tp tr dt e b:Addr) (es bs:List Addr) (f:Nat→Nat→Option Int) (o p:Int) (n m:Nat) (W:Int) (i j:Nat) (r:Pr) (S:Addr→Prop) (s:GS) (B M:Nat) (H0:Hp) (_:vs=[.ref x, .ref tc, .ref tp]) (_:iT H C CG x tr W S s B M) (_:q_ H0 CT tr dt e b es bs f o p n m) (_:Base H0 H S) (_:H tc=some (.tup (j6 (aK (i+1,j+1))))) (_:H tp=some (.tup (j6 (aK (i,j))))) (_:i<n) (_:j<m) (_:eR f o p W) (_:iS f o p W s) (_:s.2 (aK (i+1,j+1))=some r) (_:B<10000) (_:M+2≤10000)
  (_:∀H' S',p6 S H S' H'→iT H' C CG x tr W S' (Jq f o p i j s r) (B+1) (M+2)→Q .cI H'):tZ C CG CT vs H Q u3
inductive rj(C CG CT:Addr)(vs:List V)(H:Hp)(Q:VK)(u3:XK):Prop
 |mk (x tr dt e b:Addr) (es bs:List Addr) (f:Nat→Nat→Option Int) (o p:Int) (n m:Nat) (W:Int) (i j:Nat) (S:Addr→Prop) (s:GS) (B M:Nat) (H0:Hp) (_:vs=[.ref x, .int i, .int j]) (_:iT H C CG x tr W S s B M) (_:q_ H0 CT tr dt e b es bs f o p n m) (_:Base H0 H S) (_:i<n) (_:j<m) (_:n≤1000) (_:m≤1000) (_:eR f o p W) (_:iS f o p W s) (_:B+2≤10000) (_:M+3≤10000)
  (_:∀H' S',p6 S H S' H'→iT H' C CG x tr W S' (X2 f o p W i j s) (B+2) (M+3)→Q .cI H'):rj C CG CT vs H Q u3
inductive YY(CT:Addr)(vs:List V)(H:Hp)(Q:VK)(u3:XK):Prop
 |mk (tr dt e b:Addr) (es bs:List Addr) (f:Nat→Nat→Option Int) (o p:Int) (n m:Nat) (W:Int) (_:vs=[.ref tr, .int W]) (_:q_ H CT tr dt e b es bs f o p n m) (_:Bx f n m) (_:n*m≤3000) (_:n≤1000) (_:m≤1000) (_:eR f o p W)
  (_:∀H' r us gs,au H H'→H r=none→H' r=some (.lst us)→gj H' us gs→(∀(k:Nat) a,us[k]?=some (.ref a)→H a=none)→Told (gY f o p W) gs→Q (.ref r) H'):YY CT vs H Q u3
structure Fd where
 worth:Int
 way:List Pr
 row:List Int
 pairs:List Pr
def Al(g:Pr→Option Int)(o p:Int)(ps:List Pr):List Int:=(List.range ps.length).map fun k=>vl g o p (ps.take (k+1))
theorem DI(g:Pr→Option Int)(o p:Int)(ps:List Pr)(q:Pr):Al g o p (ps++[q])=Al g o p ps++[vl g o p (ps++[q])]:=by
 unfold Al;rw[List.length_append,List.length_singleton,List.range_succ,List.map_append]
 congr 1
 ·apply List.map_congr_left;intro k hk;have:k<ps.length:=by simpa using hk
  rw[List.take_append_of_le_length Xz]
 ·simp;rw[List.take_of_length_le Xy]
structure Mc(f:Nat→Nat→Option Int)(o p W:Int)(d:Fd):Prop where
 worth:d.worth=W
 way:BW f o p W d.way
 row:d.row=Al (lf f) o p d.way
 sub:∀q∈d.way,q∈d.pairs
def mz(f:Nat→Nat→Option Int)(ps:List Pr):Nat→Nat→Option Int:=fun i j=>if aK (i,j)∈ps then none else f i j
def Stop(f:Nat→Nat→Option Int)(o p least:Int):Prop:=∀ps,Wy (lf f) ps→vl (lf f) o p ps<least
structure nV(f:Nat→Nat→Option Int)(o p least W:Int)(gs:List (List Pr))(ds:List Fd):Prop where
 top:eR f o p W
 ex:∃ps,BW f o p W ps
 least:least≤W
 told:Told (gY f o p W) gs
 Fq:ds.map Fd.pairs=gs
 ok:∀d∈ds,Mc f o p W d
inductive Reach(f0:Nat→Nat→Option Int)(o p least:Int):List Fd→(Nat→Nat→Option Int)→Prop
 |start:Reach f0 o p least [] f0
 |round {done:List Fd} {f:Nat→Nat→Option Int} {W:Int} {gs:List (List Pr)} {ds:List Fd} (_:Reach f0 o p least done f) (_:nV f o p least W gs ds):Reach f0 o p least (done++ds) (mz f gs.flatten)
theorem DJ{f:Nat→Nat→Option Int}{n m:Nat}(t:Bx f n m)(ps:List Pr):Bx (mz f ps) n m:=fun i j h=>t i j (by
 unfold mz at h;split at h
 ·cases h
 ·exact h)
theorem Reach.Qd{f0 f:Nat→Nat→Option Int}{o p least:Int}{ds:List Fd}{n m:Nat}(t:Bx f0 n m)(r:Reach f0 o p least ds f):Bx f n m:=by
 induction r with
 |start=>exact t
 |round _ _ ih=>exact DJ ih _
theorem sY(f:Nat→Nat→Option Int)(ps:List Pr)(q:Pr):lf (mz f ps) q=if q∈ps then none else lf f q:=by
 unfold lf mz;by_cases h:0≤q.1∧0≤q.2
 ·rw[Xp h,Xp h];have:aK (q.1.toNat,q.2.toNat)=q:=Prod.ext (by simp[aK];omega) (by simp[aK];omega);rw[this]
 ·rw[Xm h,Xm h];split<;>rfl
theorem gY.open{f:Nat→Nat→Option Int}{o p W:Int}{a b:Pr}(h:gY f o p W a b):(lf f a).isSome=true:=by
 obtain⟨ps,⟨w,_⟩,hm⟩:=h.on;exact w.ok a hm
theorem Told.mem{E:Pr→Pr→Prop}{gs:List (List Pr)}(t:Told E gs){ps:List Pr}(h:ps∈gs){a:Pr}(ha:a∈ps):E a a:=(t.cls ps h a ha a).mp ha
structure Apart(f0 f:Nat→Nat→Option Int)(ds:List Fd):Prop where
 sub:∀q,(lf f q).isSome=true→lf f q=lf f0 q
 cB:∀d∈ds,∀q∈d.pairs,lf f q=none∧(lf f0 q).isSome=true
 ap:ds.Pairwise fun a b=>∀q∈a.pairs,q∉b.pairs
 sV:∀d∈ds,d.pairs.Pairwise (fun p q=>iE p q=true)∧d.pairs≠[]
 gone:∀q,lf f q=none→(lf f0 q).isSome=true→∃d∈ds,q∈d.pairs
theorem Reach.apart{f0 f:Nat→Nat→Option Int}{o p least:Int}{ds:List Fd}(r:Reach f0 o p least ds f):Apart f0 f ds:=by
 induction r with
 |start=>exact⟨fun _ _=>rfl,fun d h=>(by cases h), .nil,fun d h=>(by cases h),fun q h1 h2=>by rw[h1]at h2;cases h2⟩
 |@round done f W gs ds r R ih=>
  have mem:∀d∈ds,d.pairs∈gs:=fun d h=>by rw[←R.Fq];exact List.mem_map.mpr ⟨d,h,rfl⟩
  have op:∀d∈ds,∀q∈d.pairs,(lf f q).isSome=true:=fun d h q hq=>(R.told.mem (mem d h) hq).open
  refine⟨fun q h=>?_,fun d h q hq=>?_,?_,fun d h=>?_,fun q h1 h2=>?_⟩
  ·rw[sY]at h⊢;split at h
   ·cases h
   ·rename_i hn
    rw[Xm hn];exact ih.sub q h
  ·rw[sY];rcases List.mem_append.mp h with h|h
   ·obtain⟨h1,h2⟩:=ih.cB d h q hq;exact⟨by split;rfl;exact h1,h2⟩
   ·rw[Xp (List.mem_flatten.mpr ⟨_,mem d h,hq⟩)];have:=op d h q hq;exact⟨rfl,by rw[←ih.sub q this];exact this⟩
  ·refine List.pairwise_append.mpr ⟨ih.ap,?_,fun a ha b hb q hq Mb=>?_⟩
   ·have:=R.told.apart;rw[←R.Fq,List.pairwise_map]at this;exact this
   ·have h1:=(ih.cB a ha q hq).1;have h2:=op b hb q Mb;rw[h1]at h2;cases h2
  ·rcases List.mem_append.mp h with h|h
   ·exact ih.sV d h
   ·exact⟨R.told.sV _ (mem d h),R.told.ne _ (mem d h)⟩
  ·rw[sY]at h1;by_cases hm:q∈gs.flatten
   ·obtain⟨ps,BB,hq⟩:=List.mem_flatten.mp hm;rw[←R.Fq]at BB;obtain⟨d,hd,rfl⟩:=List.mem_map.mp BB;exact⟨d,List.mem_append_right _ hd,hq⟩
   ·rw[Xm hm]at h1;obtain⟨d,hd,hq⟩:=ih.gone q h1 h2;exact⟨d,List.mem_append_left _ hd,hq⟩
theorem t5(f:Nat→Nat→Option Int)(o p:Int):∀i j v,Bq f o p i j=some v→∃e,dj f o p (cC f o p i j).1 (cC f o p i j).2=some e∧v=e-(o*((i:Int)-1-(cC f o p i j).1)+p*((j:Int)-1-(cC f o p i j).2))
 |0,j,v,h=>by rw[jg]at h;cases h
 |i+1,0,v,h=>by unfold Bq at h;cases h
 |i+1,j+1,v,hB=>by
  unfold cC;by_cases h1:dj f o p i j=Bq f o p (i+1) (j+1)
  ·rw[Xp h1];refine⟨v,by rw[h1,hB],?_⟩;have e1:((i+1:Nat):Int)-1-((i,j).1:Int)=0:=by show((i+1:Nat):Int)-1-(i:Int)=0;omega
   have e2:((j+1:Nat):Int)-1-((i,j).2:Int)=0:=by show((j+1:Nat):Int)-1-(j:Int)=0;omega
   rw[e1,e2,Int.mul_zero,Int.mul_zero];omega
  ·rw[Xm h1];by_cases h2:bp (Bq f o p i (j+1)) o=Bq f o p (i+1) (j+1)
   ·rw[Xp h2];cases e:Bq f o p i (j+1)with
    |none=>rw[e,hB]at h2;cases h2
    |some v2=>
     rw[e,hB]at h2;have h2:v2-o=v:=by simpa[bp]using h2
     obtain⟨x,hx,hv⟩:=t5 f o p i (j+1) v2 e;refine⟨x,hx,?_⟩;have e1:((i+1:Nat):Int)-1-((cC f o p i (j+1)).1:Int)=((i:Int)-1-(cC f o p i (j+1)).1)+1:=XB;rw[e1,Int.mul_add];omega
   ·rw[Xm h2];have e0:Bq f o p (i+1) (j+1)=pY [dj f o p i j,bp (Bq f o p i (j+1)) o,bp (Bq f o p (i+1) j) p]:=by rw[Bq];rfl
    have key:∀a b c:Option Int,pY [a,b,c]≠a→pY [a,b,c]≠b→c=pY [a,b,c]:=fun a b c=>by
     cases a<;>cases b<;>cases c<;>simp[pY]<;>omega
    have h3:bp (Bq f o p (i+1) j) p=Bq f o p (i+1) (j+1):=by
     rw[e0];exact key _ _ _ (fun z=>h1 (by rw[e0];exact z.symm)) (fun z=>h2 (by rw[e0];exact z.symm))
    cases e:Bq f o p (i+1) j with
    |none=>rw[e,hB]at h3;cases h3
    |some v2=>
     rw[e,hB]at h3;have h3:v2-p=v:=by simpa[bp]using h3
     obtain⟨x,hx,hv⟩:=t5 f o p (i+1) j v2 e;refine⟨x,hx,?_⟩;have e1:((j+1:Nat):Int)-1-((cC f o p (i+1) j).2:Int)=((j:Int)-1-(cC f o p (i+1) j).2)+1:=XB;rw[e1,Int.mul_add];omega
termination_by i j=>(i,j)
theorem Fs(f:Nat→Nat→Option Int)(o p:Int):∀(k i j:Nat)(v:Int),i≤k→dj f o p i j=some v→Wy (lf f) ((eh f o p i i j).map aK)∧lstP ((eh f o p i i j).map aK)=aK (i,j)∧vl (lf f) o p ((eh f o p i i j).map aK)=v∧(eh f o p i i j).map (fun q=>dj f o p q.1 q.2)=(Al (lf f) o p ((eh f o p i i j).map aK)).map some:=by
 intro k
 induction k with
 |zero=>
  intro i j v hi he;have:i=0:=XB;subst this;rw[hU (fun h=>by rw[jg]at h;cases h)];have hw:f 0 j=some v:=by
   unfold dj at he;rw[jg]at he;cases e:f 0 j with
   |none=>rw[e]at he;cases he
   |some w=>rw[e]at he;exact he
  have hl:lf f (aK (0,j))=some v:=by rw[←hw];exact qY f 0 j
  refine⟨.one (by rw[hl];rfl),rfl,by simp[vl,hl],?_⟩;simp[Al,vl,hl,he]
 |succ k ih=>
  intro i j v hi he;by_cases hg:g7 (Bq f o p i j)=true
  ·obtain⟨a1,a2,a3⟩:=la hg;obtain⟨l1,l2⟩:=(lI f o p i j a1 a2).resolve_right a3;rw[vn hg,List.map_append,List.map_append];cases eb:Bq f o p i j with
   |none=>exact absurd eb a3
   |some b=>
    obtain⟨x,hx,hb⟩:=t5 f o p i j b eb;obtain⟨w1,w2,w3,w4⟩:=ih _ _ x Xz hx;have WI:0≤b:=by rw[eb]at hg;simpa[g7]using hg
    have hw:∃w,f i j=some w∧v=w+b:=by
     unfold dj at he;rw[eb]at he;cases e:f i j with
     |none=>rw[e]at he;cases he
     |some w=>
      rw[e]at he;simp only[E3,show ¬b<0 by omega,if_false,Option.some.injEq]at he;exact⟨w,rfl,XB⟩
    obtain⟨w,hw,hv⟩:=hw;have hl:lf f (aK (i,j))=some w:=by rw[←hw];exact qY f i j
    have st:X3 (lstP ((eh f o p (cC f o p i j).1 (cC f o p i j).1 (cC f o p i j).2).map aK)) (aK (i,j)):=by
     rw[w2];exact⟨by simp[aK];omega,by simp[aK];omega⟩
    have ev:vl (lf f) o p ((eh f o p (cC f o p i j).1 (cC f o p i j).1 (cC f o p i j).2).map aK++[aK (i,j)])=v:=by
     rw[sT _ _ _ w1.ne,w2,w3,hl];simp only[gp,Option.getD_some];have e1:(aK (i,j)).1-(aK ((cC f o p i j).1,(cC f o p i j).2)).1-1=(i:Int)-1-(cC f o p i j).1:=by show(i:Int)-((cC f o p i j).1:Int)-1=_;omega
     have e2:(aK (i,j)).2-(aK ((cC f o p i j).1,(cC f o p i j).2)).2-1=(j:Int)-1-(cC f o p i j).2:=by show(j:Int)-((cC f o p i j).2:Int)-1=_;omega
     rw[e1,e2];omega
    refine⟨w1.snoc (by rw[hl];rfl) st,d8,ev,?_⟩;show _++[dj f o p i j]=(Al (lf f) o p (_++[aK (i,j)])).map some;rw[DI,List.map_append,w4,he];show _++[some v]=_++[some _];rw[ev]
  ·rw[hU hg];have hw:f i j=some v:=by
    unfold dj at he;cases e:f i j with
    |none=>rw[e]at he;cases he
    |some w=>
     rw[e]at he;cases eb:Bq f o p i j with
     |none=>rw[eb]at he;exact he
     |some b=>
      rw[eb]at he hg;have:b<0:=by
       have:¬0≤b:=fun z=>hg (by simpa[g7]using z)
       omega
      simp only[E3,this,if_true]at he;exact he
   have hl:lf f (aK (i,j))=some v:=by rw[←hw];exact qY f i j
   refine⟨.one (by rw[hl];rfl),rfl,by simp[vl,hl],?_⟩;simp[Al,vl,hl,he]
def Ft(f:Nat→Nat→Option Int)(o p:Int)(n m:Nat):Option Int:=pY ((List.range n).map fun i=>pY ((List.range m).map (dj f o p i)))
theorem DK{f:Nat→Nat→Option Int}{n m:Nat}(t:Bx f n m)(o p:Int):f_ (fun v=>∃ps,Wy (lf f) ps∧v=vl (lf f) o p ps) (Ft f o p n m):=by
 refine(lF _).Rv (fun v hv=>?_) (fun v hv=>?_)
 ·obtain⟨i,_,h2⟩:=List.mem_map.mp hv;have h3:=lF ((List.range m).map (dj f o p i));rw[h2]at h3;obtain⟨j,_,h4⟩:=List.mem_map.mp h3.1;obtain⟨as,a1,_,a3⟩:=nS h4;exact⟨as,a1,a3.symm⟩
 ·obtain⟨ps,w,rfl⟩:=hv;obtain⟨i,j,hl,hi,hj⟩:=kC t w (cH w.ne);obtain⟨b,hb,hle⟩:=wB (o:=o) (p:=p) w hl;have h3:=lF ((List.range m).map (dj f o p i));have pC:some b∈(List.range m).map (dj f o p i):=List.mem_map.mpr ⟨j,by simpa using hj,hb⟩;cases e:pY ((List.range m).map (dj f o p i))with
  |none=>rw[e]at h3;exact absurd pC (h3 b)
  |some u=>
   rw[e]at h3;refine⟨u,List.mem_map.mpr ⟨i,by simpa using hi,e⟩,?_⟩;have:=h3.2 b pC;omega
theorem Bk{f:Nat→Nat→Option Int}{o p W:Int}(T:eR f o p W){n m:Nat}(t:Bx f n m){a b:Pr}(h:gY f o p W a b):∃i j:Nat,dj f o p i j=some W∧i<n∧j<m∧gY f o p W a (aK (i,j)):=by
 obtain⟨ps,w,hm⟩:=h.on;obtain⟨i,j,hl,hi,hj⟩:=kC t w.1 (cH w.1.ne);obtain⟨v,hb,hle⟩:=wB (o:=o) (p:=p) w.1 hl;obtain⟨as,a1,_,a3⟩:=nS hb;have:=T _ a1;have hW:=w.2;refine⟨i,j,by rw[hb];congr 1;omega,hi,hj, .way ps w hm ?_⟩;rw[←hl];exact cH w.1.ne
def uy(n m:Nat):List Pr:=(List.range n).flatMap fun i=>(List.range m).map fun j=>aK (i,j)
theorem p8(n m:Nat):(uy n m).length=n*m:=by
 unfold uy
 induction n with
 |zero=>simp
 |succ n ih=>
  rw[List.range_succ,List.flatMap_append,List.length_append,ih,Nat.succ_mul];simp
theorem p9{n m i j:Nat}(hi:i<n)(hj:j<m):aK (i,j)∈uy n m:=List.mem_flatMap.mpr ⟨i,by simpa using hi,List.mem_map.mpr ⟨j,by simpa using hj,rfl⟩⟩
theorem Told.wR{E:Pr→Pr→Prop}{gs:List (List Pr)}{n m:Nat}(t:Told E gs)(h:∀g∈gs,∀a∈g,∃i j:Nat,a=aK (i,j)∧i<n∧j<m):gs.length≤n*m:=by
 have hf:∀g∈gs,lH g∈g:=fun g hg=>by
  cases e:g with
  |nil=>exact absurd e (t.ne g hg)
  |cons a r=>simp[lH]
 have:=len_sub (gs.map lH) (uy n m) (List.pairwise_map.mpr (List.Pairwise.imp_of_mem (fun{a b} ha hb Dx e=>Dx (lH a) (hf a ha) (by rw[e];exact hf b hb)) t.apart)) fun x hx=>by
  obtain⟨g,hg,rfl⟩:=List.mem_map.mp hx;obtain⟨i,j,e,hi,hj⟩:=h g hg _ (hf g hg);rw[e];exact p9 hi hj
 rw[List.length_map,p8]at this;exact this
structure rX(P:Addr→Prop)(H:Hp)(CF a:Addr)(d:Fd)(dy wy rw pr:Addr)(rT j4:List V):Prop where
 ob:H a=some (.ins CF dy (rR d.worth wy rw pr))
 hw:H wy=some (.lst rT)
 pw:iQ H rT d.way
 hr:H rw=some (.lst (d.row.map V.int))
 hp:H pr=some (.lst j4)
 pp:iQ H j4 d.pairs
 fa:P a
 fw:P wy
 fr:P rw
 fp:P pr
def cz(P:Addr→Prop)(H:Hp)(CF:Addr)(us:List V)(ds:List Fd):Prop:=us.length=ds.length∧∀(k:Nat) d,ds[k]?=some d→∃a dy wy rw pr rT j4,us[k]?=some (V.ref a)∧rX P H CF a d dy wy rw pr rT j4
theorem rX.keep{P P':Addr→Prop}{H H':Hp}{CF a:Addr}{d:Fd}{dy wy rw pr:Addr}{rT j4:List V}(F:rX P H CF a d dy wy rw pr rT j4)(h:∀b o,P b→H b=some o→H' b=some o)(t:d6 H H')(hP:∀b,P b→P' b):rX P' H' CF a d dy wy rw pr rT j4:=
 ⟨h _ _ F.fa F.ob,h _ _ F.fw F.hw,F.pw.cq t,h _ _ F.fr F.hr,h _ _ F.fp F.hp,F.pp.cq t,hP _ F.fa,hP _ F.fw,hP _ F.fr,hP _ F.fp⟩
theorem cz.keep{P P':Addr→Prop}{H H':Hp}{CF:Addr}{us:List V}{ds:List Fd}(F:cz P H CF us ds)(h:∀b o,P b→H b=some o→H' b=some o)(t:d6 H H')(hP:∀b,P b→P' b):cz P' H' CF us ds:=
 ⟨F.1,fun k d e=>let ⟨a,dy,wy,rw,pr,rT,j4,h1,h2⟩:=F.2 k d e;⟨a,dy,wy,rw,pr,rT,j4,h1,h2.keep h t hP⟩⟩
theorem cz.nil{P:Addr→Prop}{H:Hp}{CF:Addr}:cz P H CF [] []:=⟨rfl,fun k d e=>by simp at e⟩
theorem cz.append{P:Addr→Prop}{H:Hp}{CF:Addr}{us vs:List V}{ds es:List Fd}(F:cz P H CF us ds)(G:cz P H CF vs es):cz P H CF (us++vs) (ds++es):=by
 refine⟨by rw[List.length_append,List.length_append,F.1,G.1],fun k d e=>?_⟩;by_cases hk:k<ds.length
 ·rw[List.getElem?_append_left hk]at e;rw[List.getElem?_append_left (by rw[F.1];exact hk)];exact F.2 k d e
 ·rw[List.getElem?_append_right Xz]at e;rw[List.getElem?_append_right (by rw[F.1];omega),F.1];exact G.2 _ d e
inductive t6(CT:Addr)(vs:List V)(H:Hp)(Q:VK)(u3:XK):Prop
 |mk (f g t:Addr) (v:V) (c:Case) (cB:List Pr) (_:vs=[.ref f, .ref g, .ref t,v]) (_:H f=some (.lst (c.xs.map V.str))) (_:H g=some (.lst (c.ys.map V.str))) (_:XT H CT t c) (_:CO H v cB) (_:cB.length≤1000) (_:c.xs.length≤1000) (_:c.ys.length≤1000) (_:∀H' e as,au H H'→H' e=some (.lst (as.map V.ref))→H e=none→jG H' as (mQ c cB) c.xs.length c.ys.length→as.Nodup→e∉as→(∀a∈as,H a=none)→Q (.ref e) H'):t6 CT vs H Q u3
inductive p_(CT CF:Addr)(vs:List V)(H:Hp)(Q:VK)(u3:XK):Prop
 |mk (w t:Addr) (as:List Addr) (c:Case) (f:Nat→Nat→Option Int) (n m:Nat) (_:vs=[.ref w, .ref t]) (_:H w=some (.lst (as.map V.ref))) (_:jG H as f n m) (_:XT H CT t c) (_:Bx f n m) (_:n*m≤3000) (_:n≤1000) (_:m≤1000)
  (_:Stop f c.out c.into c.least→∀H' r,au H H'→H r=none→H' r=some (.lst [])→Q (.ref r) H')
  (_:∀W gs ds,nV f c.out c.into c.least W gs ds→gs≠[]→∀H' r us,au H H'→H r=none→H' r=some (.lst us)→cz (fun b=>H b=none) H' CF us ds→Q (.ref r) H'):p_ CT CF vs H Q u3
inductive t8(CF:Addr)(vs:List V)(H:Hp)(Q:VK)(u3:XK):Prop
 |mk (w md:Addr) (as:List Addr) (us:List V) (ds:List Fd) (f:Nat→Nat→Option Int) (n m:Nat) (_:vs=[.ref w, .ref md]) (_:H w=some (.lst (as.map V.ref))) (_:as.Nodup) (_:w∉as) (_:jG H as f n m) (_:H md=some (.lst us)) (_:md∉as) (_:cz (fun b=>b∉as) H CF us ds) (_:∀d∈ds,∀q∈d.pairs,∃i j:Nat,q=aK (i,j)∧i<n∧j<m)
  (_:∀H',(∀b o,b∉as→H b=some o→H' b=some o)→d6 H H'→jG H' as (mz f (ds.map Fd.pairs).flatten) n m→Q .cI H'):t8 CF vs H Q u3
def Y1(a b:Fd):Bool:=if a.worth=b.worth then iE (lH a.pairs) (lH b.pairs)else decide (b.worth<a.worth)
structure dh(f0:Nat→Nat→Option Int)(o p least:Int)(es:List Fd):Prop where
 Qe:∃ds f,Reach f0 o p least ds f∧Stop f o p least∧es.Perm ds
 wR:es.length≤20
 sV:es.Pairwise fun a b=>Y1 a b=true
inductive wD(CT CF CX:Addr)(vs:List V)(H:Hp)(Q:VK)(E:XK):Prop
 |mk (a b t:Addr) (c:Case) (_:vs=[.ref a, .ref b, .ref t]) (_:H a=some (.lst (c.xs.map V.str))) (_:H b=some (.lst (c.ys.map V.str))) (_:XT H CT t c) (_:c.xs.length≤50) (_:c.ys.length≤50)
  (_:∀es,dh (mQ c []) c.out c.into c.least es→∀H' r us,au H H'→H r=none→H' r=some (.lst us)→cz (fun b=>H b=none) H' CF us es→Q (.ref r) H')
  (_:∀ds f,Reach (mQ c []) c.out c.into c.least ds f→20<ds.length→∀H',au H H'→E (.ref CX) none H'):wD CT CF CX vs H Q E
def DL(c:Case)(i m:Nat):Nat:=((List.range m).filter fun j=>(c.pw (aK (i,j))).isSome).length
def manyN(c:Case):Nat→Nat
 |0=>0
 |n+1=>manyN c n+DL c n c.ys.length
theorem Bl(c:Case)(i m:Nat):DL c i (m+1)=DL c i m+if (c.pw (aK (i,m))).isSome=true then 1 else 0:=by
 unfold DL;rw[List.range_succ,List.filter_append,List.length_append]
 congr 1
 by_cases h:(c.pw (aK (i,m))).isSome=true
 ·rw[Xp h,List.filter_cons,Xp h];rfl
 ·rw[Xm h,List.filter_cons,Xm h];rfl
theorem t9(c:Case):∀n,((uy n c.ys.length).filter fun q=>(c.pw q).isSome).length=manyN c n
 |0=>rfl
 |n+1=>by
  unfold uy;rw[List.range_succ,List.flatMap_append,List.filter_append,List.length_append];have ih:=t9 c n;unfold uy at ih;rw[ih,manyN]
  congr 1
  simp only[List.flatMap_cons,List.flatMap_nil,List.append_nil];rw[List.filter_map,List.length_map];rfl
def bM(c:Case):Nat:=manyN c c.xs.length/21+1
def eD(c:Case):Int:=min c.same (999999/(bM c:Int))
def cx(c:Case):Case:={c with same:=eD c,least:=max c.least (((bM c:Int)-1)*eD c+1)}
theorem ZT(s t:Int)(fs:List Form)(x y:Str):(dI s fs x y).isSome=(dI t fs x y).isSome:=by
 unfold dI;split
 ·rfl
 ·simp
theorem Bm(c:Case)(q:Pr):((cx c).pw q).isSome=(c.pw q).isSome:=by
 unfold Case.pw;show((wd c.xs q.1).bind fun x=>(wd c.ys q.2).bind fun y=>dI (cx c).same c.fs x y).isSome=_;cases wd c.xs q.1 with
 |none=>rfl
 |some x=>
  cases wd c.ys q.2 with
  |none=>rfl
  |some y=>exact ZT _ _ _ _ _
theorem Bn{fs:List Form}(g:bH fs=true){x y:Str}{p:Int}(h:dO fs x y=some p):0≤p:=by
 unfold dO at h;cases e:fs.find? fun f=>decide (f.1=x∧f.2.1=y)with
 |none=>rw[e]at h;cases h
 |some f=>
  rw[e]at h;have h:f.2.2=p:=by simpa using h
  have hm:=List.mem_of_find?_eq_some e;simp only[bH,Bool.and_eq_true,List.all_eq_true]at g;have:=g.1.2 f hm;simp only[Bw,iZ,inR,Bool.and_eq_true,decide_eq_true_eq]at this;omega
theorem pw_le{c:Case}(g:bH c.fs=true){q:Pr}{w:Int}(h:c.pw q=some w):w≤c.same:=by
 unfold Case.pw at h;cases e1:wd c.xs q.1 with
 |none=>rw[e1]at h;cases h
 |some x=>
  cases e2:wd c.ys q.2 with
  |none=>rw[e1,e2]at h;cases h
  |some y=>
   rw[e1,e2]at h;have h:dI c.same c.fs x y=some w:=h;unfold dI at h;split at h
   ·cases h;exact Int.le_refl _
   ·cases e3:dO c.fs x y with
    |none=>rw[e3]at h;cases h
    |some p=>
     rw[e3]at h;have h:c.same-p=w:=by simpa using h
     have:=Bn g e3;omega
theorem Am(c:Case)(n:Nat):manyN c n≤n*c.ys.length:=by
 rw[←t9,←p8];exact List.length_filter_le _ _
theorem An{m:Nat}{c:Case}(k:i4 m c)(hm:m≤60):i4 m (cx c):=by
 have h1:manyN c c.xs.length≤3600:=by
  have:=Am c c.xs.length;have h2:=Nat.mul_le_mul (Nat.le_trans k.x hm) (Nat.le_trans k.y hm);omega
 have he:(1:Int)≤bM c∧(bM c:Int)≤172:=by unfold bM;omega
 have hq:(bM c:Int)*(999999/(bM c:Int))≤999999:=by
  have:=Int.mul_ediv_self_le (x:=999999) (k:=(bM c:Int)) (XB);exact this
 have UW:1≤999999/(bM c:Int):=by
  have:(172:Int)≤999999:=XC;exact(Int.le_ediv_iff_mul_le Xz).mpr Xz
 have hs:=k.same;have hl:=k.least;have s1:1≤eD c∧eD c≤999999∧eD c≤999999/(bM c:Int):=by unfold eD;omega
 refine⟨k.x,k.y,k.good,⟨s1.1,s1.2.1⟩,k.out,k.into,?_⟩;show 1≤max c.least (((bM c:Int)-1)*eD c+1)∧max c.least (((bM c:Int)-1)*eD c+1)≤999999;have h3:((bM c:Int)-1)*eD c+1≤999999:=by
  have h4:(bM c:Int)*eD c≤(bM c:Int)*(999999/(bM c:Int)):=Int.mul_le_mul_of_nonneg_left s1.2.2 Xz;rw[Int.sub_mul];omega
 omega
theorem jK{g g':Pr→Option Int}(o p:Int):∀{ps:List Pr},(∀q∈ps,g q=g' q)→vl g o p ps=vl g' o p ps
 |[],_=>rfl
 |[a],h=>by simp only[vl];rw[h a (XE)]
 |a::b::r,h=>by
  have ih:=jK (g:=g) (g':=g') o p (ps:=b::r) fun q hq=>h q (by simp[hq])
  simp only[vl];rw[ih,h a (XE)]
theorem Bo{g g':Pr→Option Int}(o p:Int){ps:List Pr}(h:∀q∈ps,g q=g' q):Al g o p ps=Al g' o p ps:=by
 unfold Al;apply List.map_congr_left;intro k _;exact jK o p fun q hq=>h q (List.mem_of_mem_take hq)
theorem Wy.congr{g g':Pr→Option Int}{ps:List Pr}(w:Wy g ps)(h:∀q∈ps,g q=g' q):Wy g' ps:=⟨w.ne,fun q hq=>by rw[←h q hq];exact w.ok q hq,w.up⟩
theorem Jv{o p:Int}(ho:0≤o)(hp:0≤p){a b:Pr}(s:X3 a b):0≤gp o p a b:=by
 have h1:=s.1;have h2:=s.2;have:=Int.mul_nonneg ho (show 0≤b.1-a.1-1 by omega);have:=Int.mul_nonneg hp (show 0≤b.2-a.2-1 by omega);unfold gp;omega
theorem GO{g:Pr→Option Int}{o p S:Int}(ho:0≤o)(hp:0≤p):∀{ps:List Pr},ps.Pairwise X3→(∀q∈ps,∃w,g q=some w∧w≤S)→vl g o p ps≤ps.length*S
 |[],_,_=>by simp[vl]
 |[a],_,h=>by
  obtain⟨w,h1,h2⟩:=h a (XE);simp[vl,h1,h2]
 |a::b::r,hs,h=>by
  have oz:=List.pairwise_cons.mp hs;have ih:=GO ho hp oz.2 fun q hq=>h q (by simp[hq])
  obtain⟨w,h1,h2⟩:=h a (XE);have:=Jv ho hp (oz.1 b Xy);simp only[vl,h1,Option.getD_some];have e:((a::b::r).length:Int)*S=((b::r).length:Int)*S+S:=by
   rw[List.length_cons (as:=b::r),Int.natCast_add,Int.add_mul];simp
  rw[e];omega
structure Md(f0:Nat→Nat→Option Int)(o p least:Int)(d:Fd):Prop where
 way:Wy (lf f0) d.way
 worth:vl (lf f0) o p d.way=d.worth
 least:least≤d.worth
 row:d.row=Al (lf f0) o p d.way
 sub:∀q∈d.way,q∈d.pairs
 sV:d.pairs.Pairwise fun p q=>iE p q=true
 op:∀q∈d.pairs,(lf f0 q).isSome=true
 part:∀a b,d.way=a++b→a≠[]→b≠[]→vl (lf f0) o p a≤d.worth∧vl (lf f0) o p b≤d.worth
theorem Reach.su{f0 f:Nat→Nat→Option Int}{o p least:Int}{ds:List Fd}(r:Reach f0 o p least ds f):∀d∈ds,Md f0 o p least d:=by
 induction r with
 |start=>exact fun d h=>by cases h
 |@round done f W gs ds r R ih=>
  intro d hd;rcases List.mem_append.mp hd with hd|hd
  ·exact ih d hd
  have ap:=r.apart;have k:=R.ok d hd;have hg:d.pairs∈gs:=by rw[←R.Fq];exact List.mem_map.mpr ⟨d,hd,rfl⟩
  have cg:∀q∈d.way,lf f q=lf f0 q:=fun q hq=>ap.sub q (k.way.1.ok q hq)
  refine⟨k.way.1.congr cg,?_,by rw[k.worth];exact R.least,by rw[k.row];exact Bo o p cg,k.sub,R.told.sV _ hg,fun q hq=>?_,fun a b e ha hb=>?_⟩
  ·rw[←jK o p cg,k.way.2,k.worth]
  ·have:=(R.told.mem hg hq).open;rw[←ap.sub q this];exact this
  ·have w:=k.way.1;rw[e]at w;rw[←jK o p (fun q hq=>cg q (by rw[e];exact List.mem_append_left _ hq)),←jK o p (fun q hq=>cg q (by rw[e];exact List.mem_append_right _ hq)),k.worth];exact⟨R.top _ (w.left ha),R.top _ (w.right hb)⟩
theorem Reach.met{f0 f:Nat→Nat→Option Int}{o p least:Int}{ds:List Fd}(r:Reach f0 o p least ds f){ws:List Pr}(w:Wy (lf f0) ws):(∀q∈ws,(lf f q).isSome=true)∨∃d∈ds,vl (lf f0) o p ws≤d.worth∧∃q∈ws,q∈d.pairs:=by
 induction r with
 |start=>exact .inl w.ok
 |@round done f W gs ds r R ih=>
  rcases ih with h|⟨d,h1,h2⟩
  ·have ap:=r.apart;by_cases hm:∃q∈ws,q∈gs.flatten
   ·obtain⟨q,hq,hg⟩:=hm;obtain⟨g,RO,UX⟩:=List.mem_flatten.mp hg;rw[←R.Fq]at RO;obtain⟨d,hd,rfl⟩:=List.mem_map.mp RO;refine .inr ⟨d,List.mem_append_right _ hd,?_,q,hq,UX⟩;have cg:∀q∈ws,lf f0 q=lf f q:=fun q hq=>(ap.sub q (h q hq)).symm
    rw[jK o p cg,(R.ok d hd).worth];exact R.top _ (w.congr cg)
   ·refine .inl fun q hq=>?_
    rw[sY,Xm (fun z=>hm ⟨q,hq,z⟩)];exact h q hq
  ·exact .inr ⟨d,List.mem_append_left _ h1,h2⟩
theorem dh.met{f0:Nat→Nat→Option Int}{o p least:Int}{es:List Fd}(t:dh f0 o p least es){ws:List Pr}(w:Wy (lf f0) ws)(h:least≤vl (lf f0) o p ws):∃d∈es,vl (lf f0) o p ws≤d.worth∧∃q∈ws,q∈d.pairs:=by
 obtain⟨ds,f,r,st,pm⟩:=t.Qe;rcases r.met w with z|⟨d,h1,h2⟩
 ·exfalso;have cg:∀q∈ws,lf f0 q=lf f q:=fun q hq=>(r.apart.sub q (z q hq)).symm
  have:=st ws (w.congr cg);rw[←jK o p cg]at this;omega
 ·exact⟨d,pm.mem_iff.mpr h1,h2⟩
theorem dh.su{f0:Nat→Nat→Option Int}{o p least:Int}{es:List Fd}(t:dh f0 o p least es):∀d∈es,Md f0 o p least d:=fun d hd=>by
 obtain⟨ds,f,r,_,pm⟩:=t.Qe;exact r.su d (pm.mem_iff.mp hd)
theorem dh.apart{f0:Nat→Nat→Option Int}{o p least:Int}{es:List Fd}(t:dh f0 o p least es):es.Pairwise fun a b=>∀q∈a.pairs,q∉b.pairs:=by
 obtain⟨ds,f,r,_,pm⟩:=t.Qe;exact(pm.pairwise_iff fun{a b} h q hq Mb=>h q Mb hq).mpr r.apart.ap
theorem dh.ne{f0:Nat→Nat→Option Int}{o p least:Int}{es:List Fd}(t:dh f0 o p least es):∀d∈es,d.pairs≠[]:=fun d hd z=>by
 have k:=t.su d hd;have:=k.sub _ (cH k.way.ne);rw[z]at this;cases this
theorem DM{l:List (List Pr)}{k:Nat}(h:∀x∈l,k≤x.length):l.length*k≤l.flatten.length:=by
 induction l with
 |nil=>simp
 |cons a r ih=>
  have h1:=h a (XE);have h2:=ih fun x hx=>h x (by simp[hx])
  rw[List.flatten_cons,List.length_append,List.length_cons,Nat.succ_mul];omega
theorem oT:∀{ds:List Fd},ds.Pairwise (fun a b=>∀q∈a.pairs,q∉b.pairs)→(∀d∈ds,d.pairs.Nodup)→(ds.map Fd.pairs).flatten.Nodup
 |[],_,_=>XE
 |d::r,h,h2=>by
  have h':=List.pairwise_cons.mp h;rw[List.map_cons,List.flatten_cons];refine List.nodup_append.mpr ⟨h2 d Xy,oT h'.2 fun x hx=>h2 x (by simp[hx]),fun a ha b hb e=>?_⟩;obtain⟨ps,hp,hq⟩:=List.mem_flatten.mp hb;obtain⟨x,hx,rfl⟩:=List.mem_map.mp hp;exact h'.1 x hx a ha (by rw[e];exact hq)
theorem rk{ps:List Pr}(h:ps.Pairwise fun p q=>iE p q=true):ps.Nodup:=h.imp fun{a b} h e=>by
 rw[e]at h;unfold iE at h;simp at h
theorem YR(c:Case)(q:Pr):lf (mQ c []) q=c.pw q:=by
 rw[CQ];simp[X0]
theorem DN{m:Nat}{c:Case}(k:i4 m (cx c)){ds:List Fd}{f:Nat→Nat→Option Int}(r:Reach (mQ (cx c) []) (cx c).out (cx c).into (cx c).least ds f):ds.length≤20:=by
 have each:∀d∈ds,bM c≤d.pairs.length:=fun d hd=>by
  have F:=r.su d hd;have h1:=GO (g:=lf (mQ (cx c) [])) (S:=(cx c).same) k.out.1 k.into.1 F.way.up fun q hq=>by
   obtain⟨w,hw⟩:=Option.isSome_iff_exists.mp (F.way.ok q hq);refine⟨w,hw,?_⟩;rw[YR]at hw;exact pw_le k.good hw
  rw[F.worth]at h1;have h2:=F.least;have h3:((bM c:Int)-1)*eD c+1≤(cx c).least:=by show _≤max c.least _;omega
  have hs:1≤eD c:=k.same.1;have h4:((bM c:Int)-1)*eD c<(d.way.length:Int)*eD c:=by
   have:(cx c).same=eD c:=rfl;rw[this]at h1;omega
  have h5:(bM c:Int)-1<(d.way.length:Int):=Int.lt_of_mul_lt_mul_right h4 Xz;have h6:=len_sub d.way d.pairs (F.way.up.imp fun{a b} h e=>by
   rw[e]at h;have:=h.1;omega) F.sub
  omega
 have h1:=DM (l:=ds.map Fd.pairs) (k:=bM c) fun x hx=>by
  obtain⟨d,hd,rfl⟩:=List.mem_map.mp hx;exact each d hd
 have h2:=oT r.apart.ap fun d hd=>rk (r.su d hd).sV
 have h3:=len_sub _ ((uy c.xs.length c.ys.length).filter fun q=>(c.pw q).isSome) h2 fun q hq=>by
  obtain⟨ps,hp,hq⟩:=List.mem_flatten.mp hq;obtain⟨d,hd,rfl⟩:=List.mem_map.mp hp;have:=(r.su d hd).op q hq;rw[YR,Bm]at this;refine List.mem_filter.mpr ⟨?_,this⟩;obtain⟨w,hw⟩:=Option.isSome_iff_exists.mp this;obtain⟨⟨a1,a2⟩,a3,a4⟩:=c.pw_in hw;have:=p9 (n:=c.xs.length) (m:=c.ys.length) (i:=q.1.toNat) (j:=q.2.toNat) (XB) (XB);have e:aK (q.1.toNat,q.2.toNat)=q:=Prod.ext (by simp[aK];omega) (by simp[aK];omega);rw[e]at this;exact this
 rw[t9]at h3;rw[List.length_map]at h1;have h4:ds.length*bM c≤manyN c c.xs.length:=Nat.le_trans h1 h3;rcases Nat.lt_or_ge 20 ds.length with h|h
 ·exfalso;have h5:21*bM c≤ds.length*bM c:=Nat.mul_le_mul_right _ h;unfold bM at h4 h5;omega
 ·exact h
inductive wF(vs:List V)(H:Hp)(Q:VK)(u3:XK):Prop
 |mk (a:Addr) (c:Case) (f g m l:Addr) (us:List V) (_:vs=[.ref a]) (_:oA H a c f g m l us) (_:i4 60 c) (_:∀H' b m',au H H'→H b=none→H' b=some (.lst [.ref f, .ref g, .ref m', .ref l])→oA H' b (cx c) f g m' l us→Q (.ref b) H'):wF vs H Q u3
inductive wG(CF:Addr)(vs:List V)(H:Hp)(Q:VK)(u3:XK):Prop
 |mk (a:Addr) (c0:Case) (f g m l:Addr) (us:List V) (most:Nat) (_:vs=[.ref a]) (_:oA H a (cx c0) f g m l us) (_:i4 most (cx c0)) (_:most≤50) (_:∀es,dh (mQ (cx c0) []) (cx c0).out (cx c0).into (cx c0).least es→∀H' r vs,au H H'→H r=none→H' r=some (.lst vs)→cz (fun b=>H b=none) H' CF vs es→Q (.ref r) H'):wG CF vs H Q u3
end QF
namespace QF
open PySem L2 PySem.Spec PyProof.Rows PySem.W PySem.Calls
section
variable{X:Cx}
inductive Me(K:Frag)(neg:Bool)(x:V)(y:V)(H:Hp)(Q:VK):Prop
 |mk (p q:Addr) (r:Pr) (vs:List V) (ps:List Pr) (_:x= .ref p) (_:y= .ref q) (_:H p=some (.tup (j6 r))) (_:jb K H q vs) (_:iQ H vs ps) (_:Q (.bl (xor neg (decide (r∈ps)))) H):Me K neg x y H Q
open Classical in
theorem DO{pins:List (Addr×Obj)}{s:Shared}{σ:L2.St}{H:Hp}{p q:Addr}{r:Pr}{vs:List V}{ps:List Pr}(hu:X.A.units+1<cLine)(I:Inv X pins σ H s)(hp:H p=some (.tup (j6 r)))(hq:jb X.K H q vs)(P:iQ H vs ps):
  ∃(its:List Value)(e:Value→Bool),s.heap.IsList q its.toArray∧(∀y∈its.toArray,SeqAt.EqAt X.A.in1 s y (.ref p) (e y))∧its.toArray.any e=decide (r∈ps):=by
 obtain⟨its,r1,pl,hz⟩:=I.tuple (xs:=j6 r) (.of hp);obtain⟨fC,r2,Il,LC⟩:=I.list hq;have lc:=P.1;have l2:=r2.length;have key:∀j,j<fC.length→∃g t,ps[j]?=some g∧fC[j]?=some (.ref t)∧H t=some (.tup (j6 g)):=fun j hj=>by
  have hc:ps[j]?=some ps[j]:=by simp[show j<ps.length by omega]
  obtain⟨t,h1,h2⟩:=P.2 j _ hc;obtain⟨u,eu,ru⟩:=r2.get h1;cases ru;exact⟨_,t,hc,eu,h2⟩
 let e:Value→Bool:=fun y=>decide (∃t,y=Value.ref t∧H t=some (.tup (j6 r)))
 have ee:∀{t g},H t=some (.tup (j6 g))→e (.ref t)=decide (g=r):=fun{t g} h=>by
  show decide _=_;rw[Bool.eq_iff_iff,decide_eq_true_iff,decide_eq_true_iff];constructor
  ·rintro⟨t',e1,e2⟩;cases e1;rw[h]at e2;have:=HO.tup.inj (Xs e2);simp only[j6,List.cons.injEq,V.int.injEq,and_true]at this;exact Prod.ext this.1 this.2
  ·rintro rfl;exact⟨t,rfl,h⟩
 refine⟨fC,e,Il.isList,fun y hy=>?_,?_⟩
 ·obtain⟨j,hj,rfl⟩:=Array.mem_iff_getElem.mp hy;have Bz:j<fC.length:=by simpa using hj
  obtain⟨g,t,h1,h2,h3⟩:=key j Bz;have ej:fC.toArray[j]= .ref t:=by
   have:=(Xc h2).2;simpa using this
  rw[ej,ee h3];by_cases hn:t=p
  ·subst hn;rw[hp]at h3;have:=HO.tup.inj (Xs h3);simp only[j6,List.cons.injEq,V.int.injEq,and_true]at this;have:r=g:=Prod.ext this.1 this.2;rw[decide_eq_true this.symm];exact SeqAt.EqAt.same _
  ·obtain⟨UY,r3,UZ,WJ⟩:=I.tuple (xs:=j6 g) (.of h3);have:=SeqAt.EqAt.of_refs hn (SeqAt.RcAt.tuples (A:=X.A.in1) UZ pl (show X.A.in1.units<cLine from hu) (Ym r3 r1 rfl rfl));rw[←Yw,←oO,r3.length,r1.length];simpa using this
 ·rw[Bool.eq_iff_iff,Array.any_eq_true,decide_eq_true_iff];constructor
  ·rintro⟨j,hj,hh⟩;have Bz:j<fC.length:=by simpa using hj
   obtain⟨g,t,h1,h2,h3⟩:=key j Bz;have ej:fC.toArray[j]= .ref t:=by
    have:=(Xc h2).2;simpa using this
   rw[ej,ee h3,decide_eq_true_iff]at hh;rw[←hh];exact Xj h1
  ·intro hm;obtain⟨j,hj,hg⟩:=List.mem_iff_getElem.mp hm;have Bz:j<fC.length:=XB;obtain⟨g,t,h1,h2,h3⟩:=key j Bz;refine⟨j,by simpa using Bz,?_⟩;have ej:fC.toArray[j]'(by simpa using Bz)= .ref t:=by
    have:=(Xc h2).2;simpa using this
   rw[ej,ee h3,decide_eq_true_iff];rw[List.getElem?_eq_getElem hj,hg]at h1;exact(Xs h1).symm
theorem uz(K:Frag)(hu:X.A.units+1<cLine)(hK:X.K=K:=by rfl):sk X (compareOp .NotIn) (Me K true):=by
 subst hK;intro pins s σ H x y v u Q I rx ry h;obtain⟨p,q,r,vs,ps,rfl,rfl,hp,hq,P,k⟩:=h;cases rx;cases ry;obtain⟨its,e,pl,h1,h2⟩:=DO hu I hp hq P;refine SeqAt.notIn_listAt e pl h1 ⟨.bl (!decide (r∈ps)),H,I,?_,by simpa using k⟩;rw[h2];rfl
end
end QF
namespace QF
open PySem L2
end QF
namespace L2
open PySem PySem.Spec PyProof.Rows PySem.W PySem.Calls
inductive gk(K:Frag)(x q:Str)(st:Stmt)(f:Addr):Prop
 |mk {oc kV dc pm cd ct:Value} {od an:Option Addr} {sl:Array (Option Value)} (l:K.lookup f=some ⟨oc,od, .func (fnOf x q (fo st) (eA st) (aq st) .none kV dc pm an cd ct),sl⟩) (c:codeIn K cd q=true) (k:keepIn K (.ref f)=true):gk K x q st f
theorem Bp{Φ:Value→Value→Value→Option Addr→Value→Value→List Value→Prop}(h:∀k d p n c t a,Φ k d p n c t [a])(k d p:Value)(n:Option Addr)(c t:Value)(us:List Value)(e:us.length=1):Φ k d p n c t us:=QF.Uh (h k d p n c t) us e
theorem XN{Φ:Value→Value→Value→Option Addr→Value→Value→List Value→Prop}(h:∀k d p n c t a b,Φ k d p n c t [a,b])(k d p:Value)(n:Option Addr)(c t:Value)(us:List Value)(e:us.length=2):Φ k d p n c t us:=QF.Ui (h k d p n c t) us e
theorem XM{Φ:Value→Value→Value→Option Addr→Value→Value→List Value→Prop}(h:∀k d p n c t x y z,Φ k d p n c t [x,y,z])(k d p:Value)(n:Option Addr)(c t:Value)(us:List Value)(e:us.length=3):Φ k d p n c t us:=QF.Uj (h k d p n c t) us e
theorem Qf{Φ:Value→Value→Value→Option Addr→Value→Value→List Value→Prop}(h:∀k d p n c t x y z u,Φ k d p n c t [x,y,z,u])(k d p:Value)(n:Option Addr)(c t:Value)(us:List Value)(e:us.length=4):Φ k d p n c t us:=QF.Uk (h k d p n c t) us e
theorem RP{Φ:Value→Value→Value→Option Addr→Value→Value→List Value→Prop}(h:∀k d p n c t x y z u v,Φ k d p n c t [x,y,z,u,v])(k d p:Value)(n:Option Addr)(c t:Value)(us:List Value)(e:us.length=5):Φ k d p n c t us:=QF.Ul (h k d p n c t) us e
theorem U0{Φ:Value→Value→Value→Option Addr→Value→Value→List Value→Prop}(h:∀k d p n c t x y z u v w,Φ k d p n c t [x,y,z,u,v,w])(k d p:Value)(n:Option Addr)(c t:Value)(us:List Value)(e:us.length=6):Φ k d p n c t us:=QF.Um (h k d p n c t) us e
section
variable{P:Program}{w:World}{K:Frag}{mg:Str→Option Value}{base h:Heap}{cm:Bool}{k:Nat}{x q:Str}{st:Stmt}{f C:Addr}{ps:List Str}{sp:Sp}
def NP(x q:Str)(st:Stmt)(ps:List Str):Prop:=∀(kV doc pm:Value)(an:Option Addr)(cj ct:Value)(us:List Value),us.length=ps.length→bindArgs (fnOf x q (fo st) (eA st) (aq st) .none kV doc pm an cj ct) ⟨us,[]⟩=pure (ps.zip us)
theorem gk.df(d:gk K x q st f)(X:K.In h)(G:h.Ns mainGlobals mg)(a:nsIn K mainGlobals x=some (some (.ref f)))(ok:∀fd,lD K x q st f fd→a8 P w K mg base (dq P w) cm k f fd ps sp)(b:NP x q st ps):cc P w K mg base cm k x ps sp:=by
 obtain⟨l,c,z⟩:=d;have F:=Cf (st:=st) l c z;exact Co F (mg_of X G a) (F.binds b) (ok _ F)
theorem gk.ok(d:gk K x q st f){R:FuncData→Prop}(ok:∀fd,iY K x q st f fd→R fd)(b:NP x q st ps):∃fd,R fd∧Binds K fd ps []:=by
 obtain⟨l,c,z⟩:=d;exact⟨_,ok _ (Yv (st:=st) l c z), .all fun us e=>b _ _ _ _ _ _ us e⟩
theorem gk.mt(d:gk K x q st f)(cl:vE K C)(a:findIn K (.ref C) x=some (some (.ref f)))(i:isFn K (.ref f)=true)(ok:∀fd,iY K x q st f fd→a8 P w K mg base (dq P w) cm k f fd ps sp)(b:NP x q st ps):ed P w K mg base cm k C x ps sp:=by
 obtain⟨fd,h1,h2⟩:=d.ok (R:=fun fd=>a8 P w K mg base (dq P w) cm k f fd ps sp) ok b;obtain⟨l,c,z⟩:=d;exact AV h1 ⟨a,i,z⟩ h2 cl
theorem gk.nw{y:Str}(d:gk K x q st f)(m:mg y=some (.ref C))(g1:makesIn K C=true)(g2:keepIn K (.ref C)=true)(a:findIn K (.ref C) "__init__"=some (some (.ref f)))(i:isFn K (.ref f)=true)(ok:∀fd,iY K x q st f fd→a8 P w K mg base (dq P w) cm k f fd ps sp)(b:NP x q st ps):ot P w K mg base cm k y C ps [] sp:=by
 obtain⟨fd,h1,h2⟩:=d.ok (R:=fun fd=>a8 P w K mg base (dq P w) cm k f fd ps sp) ok b;exact Yh h1 ⟨g1,a,i,g2⟩ m h2 .nil
structure Mf(K:Frag)(x:Str)(C:Addr):Prop where
 a:nsIn K mainGlobals x=some (some (.ref C))
 b:excIn K C [.type "ValueError", .type "Exception", .type "BaseException", .type "object"] "ValueError.__new__"=true
 c:findIn K (.ref C) "__class__"=some (some (.builtin "object.__class__"))
 d:mroIn K C (.type "object")=some true
 e:mroIn K C (.type "BaseException")=some true
 f:findIn K (.ref C) "__getattribute__"=some (some (.builtin "BaseException.__getattribute__"))
 g:findIn K (.ref C) "__getattr__"=some none
 h:instIn K (.ref C) (.type "tuple")=some false
 i:keepIn K (.ref C)=true
theorem Mf.er{x:Str}{C:Addr}(e:Mf K x C)(X:K.In h)(G:h.Ns mainGlobals mg):QF.Er K mg x C:=⟨mg_of X G e.a,e.b,e.c,e.d,e.e,e.f,e.g,e.h,e.i⟩
structure Mg(K:Frag)(x:Str)(C:Addr):Prop where
 a:nsIn K mainGlobals x=some (some (.ref C))
 b:makesIn K C=true
 c:keepIn K (.ref C)=true
def X8(K:Frag)(x:Str):Prop:=nsIn K mainGlobals x=some none
structure TZ(K:Frag):Prop where
 a:X8 K "len"
 b:X8 K "range"
 c:X8 K "isinstance"
 d:X8 K "int"
 e:X8 K "bool"
 f:X8 K "str"
 g:X8 K "list"
 h:X8 K "tuple"
 i:X8 K "dict"
 j:X8 K "all"
 k:X8 K "any"
 l:X8 K "min"
 m:X8 K "max"
 n:X8 K "enumerate"
 o:X8 K "ValueError"
theorem oU{x:Str}(z:X8 K x)(X:K.In h)(G:h.Ns mainGlobals mg):mg x=none:=mg_none_of X G z
theorem TZ.tb(z:TZ K)(X:K.In h)(G:h.Ns mainGlobals mg):QF.TB mg:=⟨oU z.a X G,oU z.b X G,oU z.c X G,oU z.d X G,oU z.e X G,oU z.f X G,oU z.g X G,oU z.h X G,oU z.i X G,oU z.j X G,oU z.k X G,oU z.l X G,oU z.m X G,oU z.n X G,oU z.o X G⟩
end
end L2
namespace QF
open PySem L2
def BF(H:Hp)(us:List V)(ts:List (Pr×Int)):Prop:=us.length=ts.length∧∀(k:Nat)(x:Pr×Int),ts[k]?=some x→∃t,us[k]?=some (V.ref t)∧H t=some (.tup [.int x.1.1, .int x.1.2, .int x.2])
theorem BF.cq{H H':Hp}{us:List V}{ts:List (Pr×Int)}(S:BF H us ts)(t:d6 H H'):BF H' us ts:=⟨S.1,fun k x e=>let ⟨a,h1,h2⟩:=S.2 k x e;⟨a,h1,t _ _ h2⟩⟩
theorem BF.nil{H:Hp}:BF H [] []:=⟨rfl,fun k x e=>by simp at e⟩
theorem BF.snoc{H:Hp}{us:List V}{ts:List (Pr×Int)}(S:BF H us ts){t:Addr}{x:Pr×Int}(h:H t=some (.tup [.int x.1.1, .int x.1.2, .int x.2])):BF H (us++[.ref t]) (ts++[x]):=by
 refine⟨by simp[S.1],fun k y e=>?_⟩;by_cases hk:k<ts.length
 ·rw[List.getElem?_append_left hk]at e;rw[List.getElem?_append_left (by rw[S.1];exact hk)];exact S.2 k y e
 ·rw[List.getElem?_append_right Xz]at e;have X9:k-ts.length=0:=by
   have:=(Xc e).1;simp at this;omega
  rw[X9]at e;cases e;refine⟨t,?_,h⟩;rw[List.getElem?_append_right (by rw[S.1];omega),S.1,X9];rfl
def mU(c:Case)(sh:List Pr)(i:Nat):Nat→List (Pr×Int)
 |0=>[]
 |j+1=>mU c sh i j++match X0 c sh (aK (i,j))with|some w=>[(aK (i,j),w)]|none=>[]
def lb(c:Case)(sh:List Pr):Nat→List (Pr×Int)
 |0=>[]
 |n+1=>lb c sh n++mU c sh n c.ys.length
theorem rl(c:Case)(sh:List Pr)(i:Nat):∀j,(mU c sh i j).length≤j
 |0=>Nat.le_refl _
 |j+1=>by
  have:=rl c sh i j;simp only[mU,List.length_append];split<;>simp<;>omega
theorem vo(c:Case)(sh:List Pr):∀n,(lb c sh n).length≤n*c.ys.length
 |0=>by simp[lb]
 |n+1=>by
  have:=vo c sh n;have:=rl c sh n c.ys.length;simp only[lb,List.length_append,Nat.succ_mul];omega
theorem vp{c:Case}{sh:List Pr}{i:Nat}{x:Pr×Int}:∀{j},x∈mU c sh i j→X0 c sh x.1=some x.2
 |0,h=>by cases h
 |j+1,h=>by
  rcases List.mem_append.mp h with h|h
  ·exact vp h
  ·split at h
   ·rename_i w e
    have:x=(aK (i,j),w):=by simpa using h
    rw[this];exact e
   ·cases h
theorem vq{c:Case}{sh:List Pr}{x:Pr×Int}:∀{n},x∈lb c sh n→X0 c sh x.1=some x.2
 |0,h=>by cases h
 |n+1,h=>by
  rcases List.mem_append.mp h with h|h
  ·exact vq h
  ·exact vp h
inductive t_(vs:List V)(H:Hp)(Q:VK)(u3:XK):Prop
 |mk (a s:Addr) (c:Case) (f g m l:Addr) (us ws:List V) (sh:List Pr) (_:vs=[.ref a, .ref s]) (_:oA H a c f g m l us) (_:H s=some (.lst ws)) (_:iQ H ws sh) (_:c.xs.length≤50) (_:c.ys.length≤50) (_:∀H' r vs,au H H'→H r=none→H' r=some (.lst vs)→BF H' vs (lb c sh c.xs.length)→Q (.ref r) H'):t_ vs H Q u3
theorem dh.pair{c:Case}{es:List Fd}(t:dh (mQ c []) c.out c.into c.least es){q:Pr}{w:Int}(h:X0 c [] q=some w)(hl:c.least≤w):∃d∈es,q∈d.pairs:=by
 have hq:lf (mQ c []) q=some w:=by rw[CQ];exact h
 obtain⟨d,hd,_,p,hp,AK⟩:=t.met (ws:=[q]) (.one (by rw[hq];rfl)) (by simp[vl,hq];exact hl);have:p=q:=by simpa using hp
 exact⟨d,hd,this▸AK⟩
theorem dh.DP{m:Nat}{c:Case}(ok:i4 m c){es:List Fd}(t:dh (mQ c []) c.out c.into c.least es){ds:List Fd}(hs:ds.Sublist es):(ds.map Fd.pairs).flatten.length≤m*m:=by
 have h2:=oT (t.apart.sublist hs) fun d hd=>rk (t.su d (hs.subset hd)).sV
 have h3:=len_sub _ (uy c.xs.length c.ys.length) h2 fun q hq=>by
  obtain⟨ps,hp,hq⟩:=List.mem_flatten.mp hq;obtain⟨d,hd,rfl⟩:=List.mem_map.mp hp;have:=(t.su d (hs.subset hd)).op q hq;rw[YR]at this;obtain⟨w,hw⟩:=Option.isSome_iff_exists.mp this;obtain⟨⟨a1,a2⟩,a3,a4⟩:=c.pw_in hw;have:=p9 (n:=c.xs.length) (m:=c.ys.length) (i:=q.1.toNat) (j:=q.2.toNat) (XB) (XB);have e:aK (q.1.toNat,q.2.toNat)=q:=Prod.ext (by simp[aK];omega) (by simp[aK];omega);rw[e]at this;exact this
 rw[p8]at h3;exact Nat.le_trans h3 (Nat.mul_le_mul ok.x ok.y)
end QF
namespace L2
open PySem PySem.Spec PyProof.Rows PySem.W PySem.Calls
open AutoSeq1 (wpAny_loadPart')
theorem Mh{prog:Program}{w:World}{A:Around}{E:Value→Shared→Prop}{s:Shared}{i j:Int}{t u:Tok}{Q:Value→Shared→Prop}(h:Q (.bool (decide (i≤j))) s):wpAny Xx A (richCompare .LtE (.int i t) (.int j u)) Q E s:=PyProof.Rows.le_int h
theorem DQ(l b:Addr)(p q:Int×Int)(t u t' u':Tok)(n n2:Nat)(dd Cy:Option Addr)(sl wU:Array (Option Value)):
  Meets (Builtin.«tuple.__le__» ⟨[.ref l, .ref b],[]⟩) (fun A R s=>s.heap.get? l=some {cls:= .type "tuple",dict:=dd,data:= .seq #[.int p.1 t, .int p.2 u] n,slots:=sl}∧s.heap.get? b=some {cls:= .type "tuple",dict:=Cy,data:= .seq #[.int q.1 t', .int q.2 u'] n2,slots:=wU}∧
    R (.ok (.ret (.bool (!iE q p)))) s):=
 .of_wp fun prog w A R s h=>by
  obtain⟨hp,g,d,tk,os⟩:=s;obtain⟨hl,hb,h⟩:=h;have f2:=AutoSeq1.sub_tuple_tuple
  wp_walk using wpAny_loadPart' hl,wpAny_loadPart' hb
  refine(show wpAny Xx A.in1 (eqBool (.int p.1 t) (.int q.1 t')) _ _ _ from Je _ _ _ _ ?_);by_cases a:p.1=q.1
  ·rw[decide_eq_true a]
   wp_walk
   refine(show wpAny Xx A.in1 (eqBool (.int p.2 u) (.int q.2 u')) _ _ _ from Je _ _ _ _ ?_);by_cases c:p.2=q.2
   ·rw[decide_eq_true c]
    wp_walk
    have e:(!iE q p)=true:=by simp[iE,a,c]
    rw[e]at h;exact⟨_,rfl,h⟩
   ·rw[decide_eq_false c];have e:(!iE q p)=decide (p.2≤q.2):=by
     rw[Bool.eq_iff_iff];simp[iE,a]
    rw[e]at h
    wp_walk using Mh
    exact⟨_,rfl,h⟩
  ·rw[decide_eq_false a];have e:(!iE q p)=decide (p.1≤q.1):=by
    rw[Bool.eq_iff_iff];simp[iE,Ne.symm a];try omega
   rw[e]at h
   wp_walk using Mh
   exact⟨_,rfl,h⟩
theorem Zd{prog:Program}{w:World}{A:Around}{E:Value→Shared→Prop}{s:Shared}{x y:Addr}{p q:Int×Int}{Q:Value→Shared→Prop}(hu:A.units<cLine)(hx:oR s.heap x p)(hy:oR s.heap y q)(h:Q (.bool (!iE q p)) s):wpAny Xx A (compareOp .LtE (.ref x) (.ref y)) Q E s:=by
 obtain⟨⟨c,dd,da,sl⟩,t,u,n,h1,h2,h3⟩:=hx;obtain⟨⟨c',D1,UD,KC⟩,t',u',n',g1,g2,g3⟩:=hy;simp only at h2 h3 g2 g3;subst h2 h3 g2 g3;exact richCompare_meets_room (op:= .LtE) ⟨_,h1,rfl⟩ ⟨_,g1,rfl⟩ F.slot_tuple_le F.entry_tuple_le (F.args_tuple_le_2 _ _) (DQ x y p q t u t' u' n n' dd D1 sl KC) ⟨h1,g1,show Value.bool (!iE q p)≠Value.notImplemented∧Q (.bool (!iE q p)) s from⟨(fun x=>nomatch x),h⟩⟩ hu
end L2
namespace QF
open PySem L2 PySem.Spec PyProof.Rows PySem.W PySem.Calls
section
variable{X:Cx}
inductive Mi(K:Frag)(x:V)(y:V)(H:Hp)(Q:VK):Prop
 |mk (p q:Addr) (r t:Pr) (_:x= .ref p) (_:y= .ref q) (_:H p=some (.tup (j6 r))) (_:H q=some (.tup (j6 t))) (_:Q (.bl (!iE t r)) H):Mi K x y H Q
theorem GP{pins:List (Addr×Obj)}{s:Shared}{σ:L2.St}{H:Hp}{p:Addr}{r:Pr}(I:Inv X pins σ H s)(hp:H p=some (.tup (j6 r))):oR s.heap p r:=by
 obtain⟨its,rr,pl,hz⟩:=I.tuple (xs:=j6 r) (.of hp);cases rr with
 |cons r1 rr=>
  cases rr with
  |cons r2 rr=>
   cases rr;obtain⟨t,rfl⟩:=r1;obtain⟨u,rfl⟩:=r2;obtain⟨o,h1,h2,n,h3⟩:=pl;exact⟨o,t,u,n,h1,h2,h3⟩
theorem Br(K:Frag)(hu:X.A.units<cLine)(hK:X.K=K:=by rfl):sk X (compareOp .LtE) (Mi K):=by
 subst hK;intro pins s σ H x y v u Q I rx ry h;obtain⟨p,q,r,t,rfl,rfl,hp,hq,k⟩:=h;cases rx;cases ry;exact Zd hu (GP I hp) (GP I hq) ⟨.bl (!iE t r),H,I,rfl,k⟩
end
def mV(es:List Fd)(k:Nat):List Pr:=((es.take k).map Fd.pairs).flatten
theorem Yz{es:List Fd}{k:Nat}{d:Fd}(ek:es[k]?=some d):mV es (k+1)=mV es k++d.pairs:=by
 unfold mV;rw[List.take_succ,ek];simp
theorem Fu{es:List Fd}{k:Nat}{q:Pr}(h:q∈mV es k):∃d∈es.take k,q∈d.pairs:=by
 obtain⟨ps,hp,hq⟩:=List.mem_flatten.mp h;obtain⟨d,hd,rfl⟩:=List.mem_map.mp hp;exact⟨d,hd,hq⟩
theorem Jw{es:List Fd}{d:Fd}{q:Pr}(hd:d∈es)(hq:q∈d.pairs):q∈mV es es.length:=by
 unfold mV;rw[List.take_length];exact List.mem_flatten.mpr ⟨_,List.mem_map.mpr ⟨d,hd,rfl⟩,hq⟩
theorem dh.Fv{c:Case}{es:List Fd}(t:dh (mQ c []) c.out c.into c.least es){k:Nat}{d:Fd}(ek:es[k]?=some d){q:Pr}(hq:q∈d.pairs):q∉mV es k:=fun h=>by
 obtain⟨e,he,h2⟩:=Fu h;obtain⟨hk,rfl⟩:=Xc ek;obtain⟨i,hi,rfl⟩:=List.mem_iff_getElem.mp he;rw[List.length_take]at hi;rw[List.getElem_take]at h2;exact List.pairwise_iff_getElem.mp t.apart i k Xz hk Xz q h2 hq
theorem dh.next{c:Case}{es:List Fd}(t:dh (mQ c []) c.out c.into c.least es){k:Nat}{d e:Fd}(ek:es[k]?=some d)(U1:es[k+1]?=some e):Y1 d e=true:=by
 obtain⟨hk,rfl⟩:=Xc ek;obtain⟨U2,rfl⟩:=Xc U1;exact List.pairwise_iff_getElem.mp t.sV k (k+1) hk U2 Xz
theorem dh.Jx{m:Nat}{c:Case}(ok:i4 m c){es:List Fd}(t:dh (mQ c []) c.out c.into c.least es)(k:Nat):(mV es k).length≤m*m:=t.DP ok (List.take_sublist _ _)
theorem Fw{α:Type}{l:List α}{i:Nat}{g:α}(h:l.Nodup)(e:l[i]?=some g):g∉l.take i:=fun m=>by
 obtain⟨hi,rfl⟩:=Xc e;obtain⟨j,hj,e2⟩:=List.mem_iff_getElem.mp m;rw[List.length_take]at hj;rw[List.getElem_take]at e2;exact List.pairwise_iff_getElem.mp h j i Xz hi Xz e2
theorem DR{kvs:List (List Key×V)}{ps:List Pr}(h:oB kvs ps)(g:Pr)(v:V):oB (putK kvs (aZ g) v) (ps++[g]):=fun p=>by
 rw[jC];by_cases hp:p=g
 ·rw[Xp (by rw[hp])];simp[hp]
 ·rw[Xm (fun z=>hp (cX z)),h p];simp[hp]
theorem Jy{a b:Fd}(h:Y1 a b=true):b.worth≤a.worth:=by
 unfold Y1 at h;split at h
 ·omega
 ·simp at h;omega
theorem Jz{a b:Fd}(h:Y1 a b=true)(e:b.worth=a.worth):iE (lH a.pairs) (lH b.pairs)=true:=by
 unfold Y1 at h;rw[Xp e.symm]at h;exact h
theorem rX.fst{P:Addr→Prop}{H:Hp}{CF a:Addr}{d:Fd}{dy wy rw pr:Addr}{rT j4:List V}(F:rX P H CF a d dy wy rw pr rT j4)(h:d.pairs≠[]):∃t,j4[0]?=some (.ref t)∧H t=some (.tup (j6 (lH d.pairs))):=by
 refine F.pp.2 0 _ ?_;cases e:d.pairs with
 |nil=>exact absurd e h
 |cons x r=>rfl
inductive Rn(o p least:Int):(Nat→Nat→Option Int)→List Fd→Prop
 |stop {f:Nat→Nat→Option Int} (_:Stop f o p least):Rn o p least f []
 |round {f:Nat→Nat→Option Int} {W:Int} {gs:List (List Pr)} {ds rs:List Fd} (_:nV f o p least W gs ds) (_:Rn o p least (mz f gs.flatten) rs):Rn o p least f (ds++rs)
section
variable{X:Cx}
inductive Fl(K:Frag)(x:V)(y:V)(H:Hp)(Q:VK):Prop
 |mk (p q:Addr) (xs ys:List V) (ps:List Pr) (_:x= .ref p) (_:y= .ref q) (_:jb K H p xs) (_:jb K H q ys) (_:iQ H xs ps) (_:iQ H ys ps) (_:Q (.bl false) H):Fl K x y H Q
end
end QF
namespace QF
open PySem L2
end QF
namespace QF
open PySem L2
end QF
namespace L2
open PySem PySem.Spec PyProof.Rows PySem.W PySem.Calls
open AutoSeq1 (wpAny_loadPart')
end L2
namespace QF
open PySem L2 PySem.Spec PyProof.Rows PySem.W PySem.Calls
section
variable{X:Cx}
end
end QF
namespace Qg
open PySem L2 QF
def top(i:Nat):Stmt:=PySem.Challenge.pw_quotefind_k16_falling.main.body.getD i (.Pass ⟨0,0,0,0⟩)
abbrev gm:Stmt:=top 28
abbrev nW:Stmt:=top 29
abbrev lJ:Stmt:=top 34
abbrev jL:Stmt:=top 35
abbrev gq:Stmt:=top 36
abbrev iF:Stmt:=top 37
abbrev bh:Stmt:=inClass (top 38) 0
abbrev dP:Stmt:=inClass (top 38) 1
abbrev lK:Stmt:=top 11
abbrev YK:Stmt:=top 12
abbrev fN:Stmt:=top 13
abbrev dA:Stmt:=inClass (top 14) 1
abbrev eE:Stmt:=inClass (top 14) 0
abbrev hV:Stmt:=inClass (top 14) 2
abbrev dQ:Stmt:=inClass (top 14) 4
abbrev cK:Stmt:=inClass (top 14) 3
abbrev eU:Stmt:=inClass (top 14) 5
abbrev i5:Stmt:=inClass (top 14) 6
abbrev fO:Stmt:=inClass (top 20) 0
abbrev oV:Stmt:=top 24
abbrev eV:Stmt:=top 21
abbrev gu:Stmt:=inClass (top 7) 0
abbrev ji:Stmt:=inClass (top 7) 1
abbrev ft:Stmt:=inClass (top 7) 2
abbrev eW:Stmt:=inClass (top 7) 3
abbrev iG:Stmt:=inClass (top 7) 4
abbrev eX:Stmt:=inClass (top 8) 0
abbrev fu:Stmt:=inClass (top 8) 1
abbrev dw:Stmt:=inClass (top 8) 2
abbrev eF:Stmt:=inClass (top 8) 3
abbrev kE:Stmt:=top 9
abbrev nX:Stmt:=top 16
abbrev fI:Stmt:=top 17
abbrev gv:Stmt:=top 22
abbrev lL:Stmt:=top 23
abbrev rm:Stmt:=top 25
abbrev rn:Stmt:=top 40
abbrev lM:Stmt:=top 41
abbrev mW:Stmt:=top 42
abbrev mY:Stmt:=top 43
abbrev jj:Stmt:=top 44
abbrev gw:Stmt:=top 45
abbrev mZ:Stmt:=top 46
abbrev m3:Stmt:=top 47
abbrev m4:Stmt:=top 48
abbrev lN:Stmt:=top 49
abbrev lO:Stmt:=top 50
abbrev m6:Stmt:=top 51
abbrev jk:Stmt:=top 52
abbrev lP:Stmt:=top 53
abbrev rY:Stmt:=top 54
section
variable{P:Program}{w:World}{K:W.Frag}{mg:Str→Option Value}{base:Heap}
variable{dR cQ aQ az aB aF ay lg:Addr}
variable(T:TB mg)
theorem oW:aJ ["sign"] ["sign"] (aq gm):=⟨rfl,rfl,rfl,by decide+kernel,rfl,by decide+kernel,by decide+kernel⟩
include T in
theorem oX{f:Addr}{fd:FuncData}(F:lD K "is_small_letter" "is_small_letter" gm f fd):a8 P w K mg base (dq P w) true 1 f fd ["sign"] YV:=by
 refine F.iW oW XA (fun cj A outer s H vs Q E hr h hX=>?_)
 ·obtain⟨i,rfl,_⟩:=h;rfl
 ·obtain⟨c,rfl,q⟩:=h;refine⟨_,(Xl (@aM _ _ _ _ (@vD _ _ _ _ _ _ _ (@j7 _ _ _ _ _ _ _ _ vc dJ (pv 0) (aW _)) (@vC _ _ _ _ _ (@j7 _ _ _ _ _ _ _ _ vc (pv 0) dJ (aW _)))))),?_⟩;refine⟨_,rfl,_,_,rfl,rfl,_,rfl,?_⟩;have q:Q (.bl (decide (97≤c)&&decide (c≤122))) H:=q;rw[←Ph,←Pj]at q;refine ba (fun h=>?_) (fun h=>?_)
  ·refine⟨_,rfl,_,_,rfl,rfl,?_⟩;rw[h,Bool.true_and]at q;exact q
  ·rw[Bool.not_eq_true]at h;rw[h,Bool.false_and]at q;exact q
variable(kb:BU mg "WORD_MOST" (.int 12))
variable(eG:cc P w K mg base true 1 "is_small_letter" ["sign"] YV)
theorem Zn:aJ ["text"] ["text"] (aq nW):=⟨rfl,rfl,rfl,by decide+kernel,rfl,by decide+kernel,by decide+kernel⟩
include T kb eG in
theorem ZQ{f:Addr}{fd:FuncData}(F:lD K "is_word" "is_word" nW f fd):a8 P w K mg base (dq P w) true 2 f fd ["text"] vU:=by
 refine F.iW Zn XA (fun cj A outer s H vs Q E hr h hX=>?_)
 ·obtain⟨i,rfl,_⟩:=h;rfl
 ·obtain⟨z,rfl,hz,q⟩:=h;refine⟨_,(Xk (Xq (@PW.pt _ _ _ (@pw_or _ _ _ _ _ _ _ (@aU _ _ _ _ _ _ _ _ rM (Xe pL Xw T.fz PyProof.Rows.Boot.«len» (W9 (pv 0) af)) aj (aW _)) (@pw_or1 _ _ _ _ (@aU _ _ _ _ _ _ _ _ om (Xe pL Xw T.fz PyProof.Rows.Boot.«len» (W9 (pv 0) af)) (@eC _ _ _ _ kb (XD) (XC)) (aW _))))) (Xl (@aM _ _ _ _ ja)) aS) (Xl (@aM _ _ _ _ (Xe (AX K rfl) (by exact rfl) T.Lx PyProof.Rows.Boot.«all» (W9 (@pS _ _ _ _ _ _ _ _ _ _ _ _ _ _ Xw (show bD ["text"] (aq nW) _ ["sign"] [] []from⟨rfl,by decide+kernel,by decide+kernel,by decide+kernel,rfl,rfl,by decide+kernel,by decide+kernel,by decide+kernel⟩) (@Ic _ _ _ _ (pv 0)) (fun _ _ _ _ _=>(Xa (0) (show(["sign"]:List Str).Nodup by decide+kernel) (Or.inl rfl))) (fun _ _ _ _ _=>j8) (fun _ _ _ _ _=>(W' eG aR (W9 (pv 0) af))) (by intro _;rfl)) af))))),?_⟩;have RQ:z.length≤sizeLine:=Nat.le_trans hz (XC);refine⟨_,rfl,z,rfl,RQ,_,_,rfl,rfl,_,rfl,?_⟩;refine ba (fun h=>?_) (fun h=>?_)
  ·have h:((z.length:Nat):Int)<1:=by simpa using h
   refine mL ?_;have e:tK z=false:=by
    have:¬1≤z.length:=XB;simp[tK,this]
   have q:=q H (au.refl H);rw[e]at q;exact q
  have h:¬((z.length:Nat):Int)<1:=by simpa using h
  refine⟨_,rfl,z,rfl,RQ,_,_,rfl,rfl,_,rfl,?_⟩;refine ba (fun h2=>?_) (fun h2=>?_)
  ·have h2:(12:Int)<((z.length:Nat):Int):=by simpa using h2
   have e:tK z=false:=by
    have:¬z.length≤12:=XB;simp[tK,this]
   have q:=q H (au.refl H);rw[e]at q;exact q
  have h2:¬(12:Int)<((z.length:Nat):Int):=by simpa using h2
  have hl:z.length≤12:=XB;have e:tK z=z.cps.toList.all low:=by
   have h3:1≤z.length:=XB;simp[tK,h3,hl]
  refine⟨_,rfl,z,rfl,fun D hD=>?_⟩;refine Ck (fun i ys σ H'=>(∃v,σ=[v])∧ys=(z.cps.toList.take i).map (fun c=>V.bl (low c))∧H'=upd H D (.lst ys)) ⟨⟨_,rfl⟩,rfl,rfl⟩ ?_ ?_
  ·rintro i c ys σ H' hc ⟨⟨v,rfl⟩,hy,rfl⟩;refine tI ?_;refine⟨_,rfl,c,rfl,ae,?_,⟨_,rfl⟩,?_,?_⟩
   ·rw[hy,List.length_map,List.length_take];exact Nat.lt_of_le_of_lt (Nat.min_le_left _ _) (Nat.lt_of_lt_of_le (Nat.lt_of_lt_of_le (Xc hc).1 (by simpa[Str.length]using hl)) (XC))
   ·rw[hy,List.take_succ,hc];simp
   ·rw[gf]
  ·rintro ys σ H' ⟨_,hy,rfl⟩;have GQ:ys=(z.cps.toList.map low).map V.bl:=by
    rw[hy,List.take_of_length_le (by simp[Str.length])];simp
   rw[GQ];refine⟨D,z.cps.toList.map low,rfl,jb.of ae,?_⟩;have q:=q _ (au.upd hD:au H (upd H D (.lst ((z.cps.toList.map low).map V.bl))));rw[e]at q;have e3:(z.cps.toList.map low).all id=z.cps.toList.all low:=by rw[List.all_map];rfl
   rw[←e3]at q;exact q
theorem uA:aJ ["low","number","high"] ["low","number","high"] (aq lJ):=⟨rfl,rfl,rfl,by decide+kernel,rfl,by decide+kernel,by decide+kernel⟩
include T in
theorem uB{f:Addr}{fd:FuncData}(F:lD K "is_between" "is_between" lJ f fd):a8 P w K mg base (dq P w) true 1 f fd ["low","number","high"] oM:=by
 refine F.iW uA XA (fun cj A outer s H vs Q E hr h hX=>?_)
 ·obtain⟨l,n,h,rfl,_⟩:=h;rfl
 ·obtain⟨l,n,h,rfl,q⟩:=h;refine⟨_,(Xl (@aM _ _ _ _ (@vD _ _ _ _ _ _ _ (@j7 _ _ _ _ _ _ _ _ F5 (pv 0) (pv 1) (aW _)) (@vC _ _ _ _ _ (@j7 _ _ _ _ _ _ _ _ F5 (pv 1) (pv 2) (aW _)))))),?_⟩;refine⟨_,rfl,_,rfl,_,_,rfl,rfl,_,rfl,?_⟩;refine ba (fun h1=>?_) (fun h1=>?_)
  ·refine⟨_,rfl,_,rfl,_,_,rfl,rfl,?_⟩;rw[h1,Bool.true_and]at q;exact q
  ·rw[Bool.not_eq_true]at h1;rw[h1,Bool.false_and]at q;exact q
variable(dS:cc P w K mg base true 1 "is_between" ["low","number","high"] oM)
variable(jM:Er K mg "BadTerms" dR)
theorem sD:aJ ["name","number","low","high"] ["name","number","low","high"] (aq jL):=⟨rfl,rfl,rfl,by decide+kernel,rfl,by decide+kernel,by decide+kernel⟩
include T dS jM in
theorem sE{f:Addr}{fd:FuncData}(F:lD K "check_number" "check_number" jL f fd):a8 P w K mg base (dq P w) true 2 f fd ["name","number","low","high"] (qR dR):=by
 refine F.iW sD XA (fun cj A outer s H vs Q E hr h hX=>?_)
 ·obtain⟨nm,n,l,h,rfl,_⟩:=h;rfl
 ·obtain⟨nm,n,l,h,rfl,hn,hl,hh,q⟩:=h;refine⟨_,(Xl (Xq (@g8 _ _ _ _ (@eM _ _ _ (W' dS aR (W9 (pv 2) (W9 (pv 1) (W9 (pv 3) af)))) (by intro _;rfl))) (Xl (@jE _ _ _ _ _ _ _ _ _ _ hX Xw (by exact rfl) jM.m jM.e (W9 (@nM _ _ _ _ _ _ (@fq _ _ _ _ _ (@qO _ _ _ _ (pv 0)) (@fq _ _ _ _ _ dJ (@fq _ _ _ _ _ (@qO _ _ _ _ (pv 2)) (@fq _ _ _ _ _ dJ (@fq _ _ _ _ _ (@qO _ _ _ _ (pv 3)) vP)))))) af) (XC) (XD) (XD))) aS)),?_⟩;refine⟨_,rfl,_,rfl,_,rfl,l,n,h,rfl,?_⟩;refine⟨_,rfl,?_⟩;refine ba (fun h1=>?_) (fun h1=>?_)
  ·have h1:inR l n h=false:=(Bool.not_eq_true' _).mp h1;rw[h1]at q;have z1:=pV (i:=l) (by lia);have z2:=pV (i:=h) (by lia);have w1:(Str.ofString " lies between ").length=14:=by decide+kernel
   have w2:(Str.ofString " and ").length=5:=by decide+kernel
   have w3:=nN;refine⟨_,rfl, .inl ⟨nm,rfl,aC Xu,nm,rfl,aC ?_,_,rfl,aC ?_,_,rfl, .inr ⟨l,rfl,z1.1,_,rfl,aC ?_,_,rfl,aC ?_,_,rfl, .inr ⟨h,rfl,z2.1,_,rfl,aC ?_,aC ?_,iP,?_⟩⟩⟩⟩
   ·rw[len_app];lia
   ·rw[len_app,len_app];lia
   ·rw[len_app,len_app,len_app];lia
   ·rw[len_app,len_app,len_app,len_app];lia
   ·rw[len_app,len_app,len_app,len_app,len_app];lia
   ·rw[len_app,len_app,len_app,len_app,len_app];lia
   ·exact q
  ·have h1:inR l n h=true:=by
    have h1:¬(!(inR l n h))=true:=h1;simpa using h1
   rw[h1]at q;exact q
variable(bI:BU mg "WORTH_MOST" (.int 999999))
variable(lh:cc P w K mg base true 2 "is_word" ["text"] vU)
variable(bS:Er K mg "BadNear" cQ)
theorem oY:aJ ["x","y","price"] ["x","y","price"] (aq gq):=⟨rfl,rfl,rfl,by decide+kernel,rfl,by decide+kernel,by decide+kernel⟩
include T dS bI lh bS in
theorem oZ{f:Addr}{fd:FuncData}(F:lD K "check_near_form" "check_near_form" gq f fd):a8 P w K mg base (dq P w) true 3 f fd ["x","y","price"] (vV cQ):=by
 refine F.iW oY XA (fun cj A outer s H vs Q E hr h hX=>?_)
 ·obtain⟨x,y,p,rfl,_⟩:=h;rfl
 ·obtain⟨x,y,p,rfl,hx,hy,q⟩:=h;have bad:iZ x y p=false→∀H',au H H'→E (.ref cQ) none H':=fun e=>by rw[e]at q;exact q
  have good:iZ x y p=true→∀H',au H H'→Q .cI H':=fun e=>by rw[e]at q;exact q
  refine⟨_,(Xk (Xq (@PW.pt _ _ _ (@pw_or _ _ _ _ _ _ _ (@g8 _ _ _ _ (@eM _ _ _ (W' lh aR (W9 (pv 0) af)) (by intro _;rfl))) (@pw_or1 _ _ _ _ (@g8 _ _ _ _ (@eM _ _ _ (W' lh aR (W9 (pv 1) af)) (by intro _;rfl)))))) (Xl (@jE _ _ _ _ _ _ _ _ _ _ hX Xw (by exact rfl) bS.m bS.e (W9 dJ af) (XC) (XD) (XD))) aS) (Xk (Xq (@aU _ _ _ _ _ _ _ _ jA (pv 0) (pv 1) (aW _)) (Xl (@jE _ _ _ _ _ _ _ _ _ _ hX Xw (by exact rfl) bS.m bS.e (W9 dJ af) (XC) (XD) (XD))) aS) (Xl (Xq (@g8 _ _ _ _ (@eM _ _ _ (W' dS aR (W9 aj (W9 (pv 2) (W9 (@eC _ _ _ _ bI (XD) (XC)) af)))) (by intro _;rfl))) (Xl (@jE _ _ _ _ _ _ _ _ _ _ hX Xw (by exact rfl) bS.m bS.e (W9 (@nM _ _ _ _ _ _ (@fq _ _ _ _ _ dJ (@fq _ _ _ _ _ (@qO _ _ _ _ (@eC _ _ _ _ bI (XD) (XC))) vP))) af) (XC) (XD) (XD))) aS)))),?_⟩;refine⟨_,rfl,x,rfl,hx,fun H1 s1=>⟨_,rfl,?_⟩⟩;refine ba (fun h1=>?_) (fun h1=>?_)
  ·have h1:(!(tK x))=true:=h1;exact⟨iP,bad (by simp[iZ,(Bool.not_eq_true' _).mp h1]) H1 s1⟩
  have h1:¬(!(tK x))=true:=h1;have h1:tK x=true:=by simpa using h1
  refine⟨_,rfl,y,rfl,hy,fun H2 s2=>⟨_,rfl,?_⟩⟩;have s2:=s1.trans s2;refine ba (fun h2=>?_) (fun h2=>?_)
  ·have h2:(!(tK y))=true:=h2;exact⟨iP,bad (by simp[iZ,(Bool.not_eq_true' _).mp h2]) H2 s2⟩
  have h2:¬(!(tK y))=true:=h2;have h2:tK y=true:=by simpa using h2
  refine⟨_,rfl,_,rfl,rfl,_,rfl,?_⟩;refine ba (fun h3=>?_) (fun h3=>?_)
  ·have h3:x=y:=by simpa using h3
   exact⟨iP,bad (by simp[iZ,h3]) H2 s2⟩
  have h3:¬x=y:=by simpa using h3
  refine⟨_,rfl,0,p,999999,rfl,_,rfl,?_⟩;refine ba (fun h4=>?_) (fun h4=>?_)
  ·have h4:(!(inR 0 p 999999))=true:=h4;have z1:=pV (i:=999999) (XB);have w1:(Str.ofString "the price of a near form lies between 0 and ").length=44:=by decide+kernel
   have w3:=nN;refine⟨_,rfl,aC ?_, .inr ⟨999999,rfl,z1.1,_,rfl,aC ?_,aC ?_,iP,?_⟩⟩
   ·rw[len_app];omega
   ·rw[len_app,len_app];omega
   ·rw[len_app,len_app];omega
   ·exact bad (by simp[iZ,(Bool.not_eq_true' _).mp h4]) H2 s2
  ·have h4:¬(!(inR 0 p 999999))=true:=h4;have h4:inR 0 p 999999=true:=by simpa using h4
   exact good (by simp[iZ,h1,h2,h3,h4]) H2 s2
variable(iU:BU mg "NEAR_MOST" (.int 60))
variable(eI:cc P w K mg base true 3 "check_near_form" ["x","y","price"] (vV cQ))
theorem eY:aJ ["near","prices","x","y","price"] ["near"] (aq iF):=⟨rfl,rfl,rfl,by decide+kernel,rfl,by decide+kernel,by decide+kernel⟩
include T bS iU eI in
theorem ua{f:Addr}{fd:FuncData}(F:lD K "near_prices" "near_prices" iF f fd):a8 P w K mg base (dq P w) true 4 f fd ["near"] (qS cQ):=by
 refine F.iW eY XA (fun cj A outer s H vs Q E hr h hX=>?_)
 ·obtain⟨a,xs,fs,rfl,_⟩:=h;rfl
 ·obtain⟨a,xs,fs,rfl,ha,ht,Lg,q⟩:=h;have bad:bH fs=false→∀H',au H H'→E (.ref cQ) none H':=fun e=>by rw[e]at q;exact q
  have good:bH fs=true→∀H' d,au H H'→H d=none→H' d=some (.dT (fs.map mO))→Q (.ref d) H':=fun e=>by rw[e]at q;exact q
  have hu:=hr.units;have hu:(A.deeper (PyProof.Rows.envOfC "near_prices" (aq iF) s.heap.objs.size f cj)).units+1<cLine:=XB;refine⟨_,(Xk (Xq (@aU _ _ _ _ _ _ _ _ om (Xe (aP K) (by exact rfl) T.fz PyProof.Rows.Boot.«len» (W9 (pv 0) af)) (@eC _ _ _ _ iU (XD) (XC)) (aW _)) (Xl (@jE _ _ _ _ _ _ _ _ _ _ hX Xw (by exact rfl) bS.m bS.e (W9 (@nM _ _ _ _ _ _ (@fq _ _ _ _ _ dJ (@fq _ _ _ _ _ (@qO _ _ _ _ (@eC _ _ _ _ iU (XD) (XC))) (@fq _ _ _ _ _ dJ vP)))) af) (XC) (XD) (XD))) aS) (Xk (W_ (1) eY.nd kX) (Xk (@b_ _ _ _ _ _ _ _ _ hX.own Xw (@bE _ K _ _ _ (pv 0) (XD)) (@jf _ K _ _ _ (3) _ Xw (@br _ _ _ _ _ (Xa (2) eY.nd (Or.inl rfl)) (@br _ _ _ _ _ (Xa (3) eY.nd (Or.inl rfl)) (@br _ _ _ _ _ (Xa (4) eY.nd (Or.inl rfl)) jd (XD)) (XD)) (XD)) (XD) (XD) (XD)) (Xk (@aY _ _ _ _ (W' eI hX.pass (W9 (pv 2) (W9 (pv 3) (W9 (pv 4) af)))) (XD)) (Xk (Xq (Xi (@qN _ _ _ _ _ hu (@fB _ _ _ _ _ (W9 (pv 2) (W9 (pv 3) af))) (pv 1))) (Xl (@jE _ _ _ _ _ _ _ _ _ _ hX Xw (by exact rfl) bS.m bS.e (W9 dJ af) (XC) (XD) (XD))) aS) (Xl (@lB _ _ _ _ _ _ _ _ _ hu (pv 1) (@fB _ _ _ _ _ (W9 (pv 2) (W9 (pv 3) af))) (pv 4) (by exact rfl))))) (by intro _;rfl)) (Xl (@aM _ _ _ _ (pv 1)))))),?_⟩;refine⟨_,rfl,a,_,rfl, .inl (.of ha),_,_,rfl,rfl,_,rfl,?_⟩;refine ba (fun h1=>?_) (fun h1=>?_)
  ·have h1:(60:Int)<(xs.length:Int):=by simpa using h1
   rw[ht.1]at h1;have z1:=pV (i:=60) (XB);have w1:(Str.ofString "there are at most ").length=18:=by decide+kernel
   have w2:(Str.ofString " near forms").length=11:=by decide+kernel
   have w3:=nN;refine⟨_,rfl,aC ?_, .inr ⟨60,rfl,z1.1,_,rfl,aC ?_,_,rfl,aC ?_,aC ?_,iP,?_⟩⟩
   ·rw[len_app];omega
   ·rw[len_app,len_app];omega
   ·rw[len_app,len_app,len_app];omega
   ·rw[len_app,len_app,len_app];omega
   ·exact bad (by have:¬fs.length≤60:=(XB);simp[bH,this]) H (.refl H)
  have h1:¬(60:Int)<(xs.length:Int):=by simpa using h1
  rw[ht.1]at h1;refine fun d hd=>?_
  have WK:H a≠none:=by rw[ha];intro z;cases z
  have f9:a≠d:=aA ha hd;refine⟨_,rfl,a,rfl,⟨xs, .of (by rw[ai f9];exact ha)⟩,?_⟩;refine cD (xs:=xs) (fun i σ H'=>(∃u v w,σ=[some (.ref a),some (.ref d),u,v,w])∧H' d=some (.dT ((fs.take i).map mO))∧au H H'∧((fs.take i).all Bw=true)∧((fs.take i).map mC).Nodup) ?_ ?_ ?_ ?_
  ·exact⟨⟨_,_,_,rfl⟩,ae,au.upd hd,rfl, .nil⟩
  ·rintro i σ H' hi ⟨_,_,s1,_⟩;exact .of (s1 _ _ ha)
  ·rintro i x σ H' hx ⟨⟨u,v,w,rfl⟩,hD,s1,bO,D_⟩;have hi:i<fs.length:=by rw[←ht.1];exact(Xc hx).1
   have hf:fs[i]?=some fs[i]:=by simp[hi]
   generalize fs[i]=f0 at hf;obtain⟨t,Ao,wX⟩:=ht.2 i f0 hf;rw[hx]at Ao;cases Ao;obtain⟨x,y,p⟩:=f0;have hm:(x,y,p)∈fs:=Xj hf;obtain⟨n8,Ke⟩:=Lg.2 _ hm;refine⟨t,_,rfl, .of (s1 _ _ wX),rfl,_,_,rfl,_,_,rfl,_,_,rfl,rfl,?_⟩;refine⟨_,rfl,_,rfl,_,rfl,x,y,p,rfl,n8,Ke,?_⟩;refine ba (fun h2=>?_) (fun h2=>?_)
   rotate_left
   ·have h2:Bw (x,y,p)=false:=by simpa[Bw]using h2
    exact fun H2 s2=>bad (Cs hf h2) H2 (s1.trans s2)
   have h2:Bw (x,y,p)=true:=h2;intro H2 s2;have NQ:=s1.trans s2;have m7:=s2 _ _ hD;refine⟨_,rfl,_,rfl,aC Xy,fun p1 J_=>?_⟩;have n1:d≠p1:=aA m7 J_;refine⟨_,rfl,d,_,rfl, .t (k:=mC (x,y,p)) (by rw[ai n1];exact m7) ae,_,rfl,?_⟩;refine ba (fun h3=>?_) (fun h3=>?_)
   ·obtain⟨v3,h3⟩:=Option.isSome_iff_exists.mp h3;exact⟨iP,bad (AY hf (Ij h3)) _ (NQ.fD (NQ.free J_))⟩
   have h3:bo ((fs.take i).map mO) (mC (x,y,p))=none:=by simpa using h3
   have s3:au H (upd H2 p1 (.tup [.str x, .str y])):=NQ.fD (NQ.free J_);refine⟨_,rfl,_,rfl,_,rfl,_,rfl,aC Xy,fun p2 AK=>?_⟩;have Bs:upd H2 p1 (.tup [.str x, .str y]) d=some (.dT ((fs.take i).map mO)):=by rw[ai n1];exact m7
   have n2:d≠p2:=aA Bs AK;have hlen:((fs.take i).map mO).length<sizeLine:=a_ (by rw[List.length_map,List.length_take];omega);refine⟨d,_,rfl, .t (k:=mC (x,y,p)) (by rw[ai n2];exact Bs) ae hlen,?_⟩;refine⟨⟨_,_,_,rfl⟩,?_,?_,?_,?_⟩
   ·rw[ae,tD _ h3,AZ hf];rfl
   ·exact(s3.fD (s3.free AK)).fD hd
   ·rw[List.take_succ,hf,List.all_append,bO];simp[h2]
   ·rw[List.take_succ,hf,List.map_append];have:=Ly h3;refine List.nodup_append.mpr ⟨D_,XE,?_⟩;intro a1 XG b1 kF e;have kF:b1=mC (x,y,p):=by simpa using kF
    rw[e,kF]at XG;exact this XG
  ·rintro σ H' ⟨⟨u,v,w,rfl⟩,hD,s1,bO,D_⟩;rw[ht.1,List.take_length]at hD bO D_;refine⟨_,rfl,good ?_ H' d s1 hd hD⟩;have:fs.length≤60:=XB;simp[bH,this,bO,D_]
variable(kc:BU mg "PART_MOST" (.int 100))
variable(cf:cc P w K mg base true 2 "check_number" ["name","number","low","high"] (qR dR))
variable(iH:cc P w K mg base true 4 "near_prices" ["near"] (qS cQ))
variable(Tc:Ct K aQ)
theorem qb:aJ ["self","same","out","into","least","part","near"] ["self","same","out","into","least","part","near"] (aq bh):=⟨rfl,rfl,rfl,by decide+kernel,rfl,by decide+kernel,by decide+kernel⟩
include T bI kc cf iH Tc in
theorem qc{f:Addr}{fd:FuncData}(F:iY K "__init__" "Terms.__init__" bh f fd):a8 P w K mg base (dq P w) true 5 f fd ["self","same","out","into","least","part","near"] (sR aQ dR cQ):=by
 refine F.iW qb XA (fun cj A outer s H vs Q E hr h hX=>?_)
 ·obtain⟨x,dx,n,nv,xs,fs,rfl,_⟩:=h;rfl
 ·obtain⟨x,dx,n,nv,xs,fs,rfl,hx,CJ,U3,Lg,q⟩:=h;have bad:jF n=false→E (.ref dR) none H:=fun e=>by rw[e]at q;exact q H .refl
  refine⟨_,(Xk (@aY _ _ _ _ (W' cf hX.pass (W9 dJ (W9 (pv 1) (W9 aj (W9 (@eC _ _ _ _ bI (XD) (XC)) af))))) (XD)) (Xk (@aY _ _ _ _ (W' cf hX.pass (W9 dJ (W9 (pv 2) (W9 aj (W9 (@eC _ _ _ _ bI (XD) (XC)) af))))) (XD)) (Xk (@aY _ _ _ _ (W' cf hX.pass (W9 dJ (W9 (pv 3) (W9 aj (W9 (@eC _ _ _ _ bI (XD) (XC)) af))))) (XD)) (Xk (@aY _ _ _ _ (W' cf hX.pass (W9 dJ (W9 (pv 4) (W9 aj (W9 (@eC _ _ _ _ bI (XD) (XC)) af))))) (XD)) (Xk (@aY _ _ _ _ (W' cf hX.pass (W9 dJ (W9 (pv 5) (W9 aj (W9 (@eC _ _ _ _ kc (XD) (XC)) af))))) (XD)) (Xk (Xr K (pv 0) (pv 1)) (Xk (Xr K (pv 0) (pv 2)) (Xk (Xr K (pv 0) (pv 3)) (Xk (Xr K (pv 0) (pv 4)) (Xk (Xr K (pv 0) (pv 5)) (Xn (Xr K (pv 0) (@pH _ _ _ _ _ _ _ _ (Xi (@qH _ _ _ _ _ (pv 6))) (@bR _ _ _ _ af) (@hG _ _ _ _ _ _ _ _ _ (iC K) (by exact rfl) T.qQ PyProof.Rows.Boot.«list» (W9 (pv 6) af) (XC) (XC) (XD) (XD)))) (Xl (Xr K (pv 0) (W' iH hX.pass (W9 (Xd K (pv 0)) af))))))))))))))),?_⟩;refine⟨_,rfl,"same",n.same,1,999999,rfl,by decide+kernel,XB,XB,?_⟩;refine ba (fun h1=>?_) (fun h1=>bad (by simp[jF,h1]));refine⟨_,rfl,"out",n.out,0,999999,rfl,by decide+kernel,XB,XB,?_⟩;refine ba (fun h2=>?_) (fun h2=>bad (by simp[jF,h2]));refine⟨_,rfl,"into",n.into,0,999999,rfl,by decide+kernel,XB,XB,?_⟩;refine ba (fun h3=>?_) (fun h3=>bad (by simp[jF,h3]));refine⟨_,rfl,"least",n.least,1,999999,rfl,by decide+kernel,XB,XB,?_⟩;refine ba (fun h4=>?_) (fun h4=>bad (by simp[jF,h4]));refine⟨_,rfl,"part",n.part,1,100,rfl,by decide+kernel,XB,XB,?_⟩;refine ba (fun h5=>?_) (fun h5=>bad (by simp[jF,h5]));have bO:jF n=true:=by simp[jF,h1,h2,h3,h4,h5]
  rw[bO]at q;have hl:∀k:Nat,k<10→k<1000:=fun k h=>XB
  refine⟨_,rfl,_,rfl,x,aQ,dx,_,rfl,hx,Tc.cl,Tc.same,XC,?_⟩;refine⟨_,rfl,_,rfl,x,aQ,dx,_,rfl,ae,Tc.cl,Tc.out,?_,?_⟩
  ·exact hl _ (by have:=aV "same" (.int n.same) [];simp at this;omega)
  refine⟨_,rfl,_,rfl,x,aQ,dx,_,rfl,ae,Tc.cl,Tc.into,?_,?_⟩
  ·exact hl _ (Nat.lt_of_le_of_lt (aV _ _ _) (by have:=aV "same" (.int n.same) [];simp at this;omega))
  refine⟨_,rfl,_,rfl,x,aQ,dx,_,rfl,ae,Tc.cl,Tc.least,?_,?_⟩
  ·show([("same", .int n.same),("out", .int n.out),("into", .int n.into)]:List (Str×V)).length<1000;simp
  refine⟨_,rfl,_,rfl,x,aQ,dx,_,rfl,ae,Tc.cl,Tc.part,?_,?_⟩
  ·show([("same", .int n.same),("out", .int n.out),("into", .int n.into),("least", .int n.least)]:List (Str×V)).length<1000;simp
  rw[gf,gf,gf,gf,Pk];have b5:SameBut x H (upd H x (.ins aQ dx (ow n))):=SameBut.refl.upd;refine⟨fun σ H'=>σ=[some (.ref x),some (.int n.same),some (.int n.out),some (.int n.into),some (.int n.least),some (.int n.part),some nv]∧∃l,H' x=some (.ins aQ dx (bf "near" (.ref l) (ow n)))∧SameBut x H H'∧H' l=some (.lst xs)∧dH H' xs fs∧H l=none,?_,?_⟩
  ·refine⟨_,rfl,_,rfl,?_⟩;rcases U3 with⟨rfl,rfl,rfl⟩|⟨a,rfl,ha,NR⟩
   ·refine mL ?_;refine⟨aC Xy,fun l mB=>?_⟩;have n1:x≠l:=aA ae mB;refine⟨_,rfl,x,aQ,dx,_,rfl,by rw[ai n1,ae],Tc.cl,Tc.near,by simp[ow],rfl,l,ae,?_,?_, .nil,?_⟩
    ·exact(b5.laid (b5.free ae mB)).upd
    ·rw[ai (Ne.symm n1),ae]
    ·exact b5.free ae mB
   ·refine ba (fun hh=>absurd hh Xy) (fun _=>?_);have n0:a≠x:=jy ha hx (by intro z;cases z);refine⟨_,rfl,a,xs,rfl, .inl (.of (by rw[ai n0];exact ha)),fun l mB=>?_⟩;have n1:x≠l:=aA ae mB;have b6:SameBut x H (upd (upd H x (.ins aQ dx (ow n))) l (.lst xs)):=b5.laid (b5.free ae mB);refine⟨_,rfl,x,aQ,dx,_,rfl,by rw[ai n1,ae],Tc.cl,Tc.near,by simp[ow],rfl,l,ae,b6.upd,?_,?_,?_⟩
    ·rw[ai (Ne.symm n1),ae]
    ·exact NR.but b6.upd hx
    ·exact b5.free ae mB
  ·rintro σ H' ⟨rfl,l,um,sb,Qh,NR,U4⟩;refine⟨_,rfl,x,aQ,dx,_,_,rfl,um,Tc.cl,Tc.near,LA n l,l,xs,fs,rfl,Qh,NR,Lg,?_⟩;refine ba (fun h6=>?_) (fun h6=>?_)
   ·rw[if_pos rfl,Xp h6]at q;intro H2 d s2 hd hD;have b2:=sb.same s2;have U5:=sb.free um hd;refine⟨_,rfl,x,aQ,dx,_,rfl,s2 _ _ um,Tc.cl,Tc.Cu,?_,?_⟩
    ·have:=aV "near" (.ref l) (ow n);have e5:(ow n).length=5:=rfl;exact hl _ Xz
    ·have nl:l≠x:=jy Qh um (by intro z;cases z);have nd:d≠x:=jy hD (s2 _ _ um) (by intro z;cases z);have RR:dx≠x:=jy CJ hx (by intro z;cases z);refine q _ l d b2.upd ⟨?_,?_,?_,?_,?_⟩ U4 U5
     ·rw[ae,Pl]
     ·rw[ai RR];exact b2 _ _ RR CJ
     ·rw[ai nl];exact s2 _ _ Qh
     ·exact NR.but (SameBut.upd (fun b u n e=>s2 b u e)) um
     ·rw[ai nd];exact hD
   ·rw[if_pos rfl,Xm h6]at q;exact fun H2 s2=>q H2 (sb.same s2)
theorem jc:aJ ["self","x","y","price"] ["self","x","y"] (aq dP):=⟨rfl,rfl,rfl,by decide+kernel,rfl,by decide+kernel,by decide+kernel⟩
include T Tc in
theorem n9{f:Addr}{fd:FuncData}(F:iY K "pair_worth" "Terms.pair_worth" dP f fd):a8 P w K mg base (dq P w) true 1 f fd ["self","x","y"] (vZ aQ):=by
 refine F.iW jc XA (fun cj A outer s H vs Q E hr h hX=>?_)
 ·obtain⟨t,x,y,n,fs,dx,l,d,xs,rfl,_⟩:=h;rfl
 ·obtain⟨t,x,y,n,fs,dx,l,d,xs,rfl,T1,q⟩:=h;have hu:=hr.units;have hu:(A.deeper (PyProof.Rows.envOfC "Terms.pair_worth" (aq dP) s.heap.objs.size f cj)).units+1<cLine:=XB;refine⟨_,(Xk (Xq (@aU _ _ _ _ _ _ _ _ jA (pv 1) (pv 2) (aW _)) (Xl (@aM _ _ _ _ (Xd K (pv 0)))) aS) (Xk (W_ (3) jc.nd (@B5 _ _ _ _ _ _ _ hu (Xd K (pv 0)) (@fB _ _ _ _ _ (W9 (pv 1) (W9 (pv 2) af))) ⟨rfl,rfl,rfl,rfl⟩)) (Xk (Xq (Xi (@qH _ _ _ _ _ (pv 3))) (Xl (@aM _ _ _ _ lA)) aS) (Xl (@aM _ _ _ _ (Xf dM (Xd K (pv 0)) (pv 3))))))),?_⟩;refine⟨_,rfl,_,rfl,rfl,_,rfl,?_⟩;refine ba (fun h=>?_) (fun h=>?_)
  ·have h:x=y:=by simpa using h
   have q:=q H (.refl H);rw[show dI n.same fs x y=some n.same by simp[dI,h]]at q;exact⟨_,rfl,t,aQ,dx,_,_,rfl,T1.ob,Tc.cl,Tc.same,Cv n l d,q⟩
  have h:¬x=y:=by simpa using h
  refine⟨_,rfl,t,aQ,dx,_,_,rfl,T1.ob,Tc.cl,Tc.Cu,Cw n l d,d,rfl, .inr ⟨_, .inl T1.di⟩,_,rfl,_,rfl,aC Xy,fun p hp=>?_⟩;have nd:d≠p:=aA T1.di hp;have q:=q _ (au.upd (o:= .tup [.str x, .str y]) hp);refine⟨_, .t (k:=[.inr x, .inr y]) (by rw[ai nd];exact T1.di) ae,?_⟩;rw[ve];have T2:lE (upd H p (.tup [.str x, .str y])) aQ t n fs dx l d xs:=⟨au.upd hp _ _ T1.ob,au.upd hp _ _ T1.own,au.upd hp _ _ T1.li,T1.tr.same (au.upd hp),au.upd hp _ _ T1.di⟩
  cases e:dO fs x y with
  |none=>
   rw[show dI n.same fs x y=none by simp[dI,h,e]]at q;refine⟨_,rfl,_,rfl,?_⟩;exact mL q
  |some v=>
   rw[show dI n.same fs x y=some (n.same-v) by simp[dI,h,e]]at q;refine⟨_,rfl,_,rfl,?_⟩;refine ba (fun hh=>absurd hh Xy) (fun _=>?_);exact⟨_,rfl,t,aQ,dx,_,_,rfl,T2.ob,Tc.cl,Tc.same,Cv n l d,_,rfl,_,_,rfl,rfl,q⟩
theorem ZV:aJ ["numbers"] ["numbers"] (aq lK):=⟨rfl,rfl,rfl,by decide+kernel,rfl,by decide+kernel,by decide+kernel⟩
include T in
theorem Zf{f:Addr}{fd:FuncData}(F:lD K "greatest" "greatest" lK f fd):a8 P w K mg base (dq P w) true 1 f fd ["numbers"] mR:=by
 refine F.iW ZV XA (fun cj A outer s H vs Q E hr h hX=>?_)
 ·obtain⟨a,os,rfl,_⟩:=h;rfl
 ·obtain⟨a,os,rfl,ha,hl,q⟩:=h;refine⟨_,(Xl (@aM _ _ _ _ (@E2 _ K _ _ _ _ _ _ _ Xw (by exact rfl) T.Gp (@pS _ _ _ _ _ _ _ _ _ _ _ _ _ _ Xw (show bD ["numbers"] (aq lK) _ ["number"] [] []from⟨rfl,by decide+kernel,by decide+kernel,by decide+kernel,rfl,rfl,by decide+kernel,by decide+kernel,by decide+kernel⟩) (@bE _ K _ _ _ (pv 0) (XD)) (fun _ _ _ _ _=>(Xa (0) (show(["number"]:List Str).Nodup by decide+kernel) (Or.inl rfl))) (fun _ _ _ _ _=>(@ZE _ _ _ (Xi (@pG _ _ _ _ _ (pv 0))))) (fun _ _ _ _ _=>(pv 0)) (by intro _;rfl)) (XD) (XD)))),?_⟩;refine⟨_,rfl,a,rfl,⟨_, .of ha⟩,fun D hD=>?_⟩;refine kZ (xs:=os.map bC) (fun i ys bF H'=>(∃u,bF=[u])∧ys=((os.take i).filterMap id).map V.int∧H' D=some (.lst ys)∧au H H') ⟨⟨_,rfl⟩,rfl,ae,au.upd hD⟩ ?_ ?_ ?_
  ·rintro i ys bF H' _ ⟨_,_,_,s1⟩;exact .of (s1 _ _ ha)
  ·rintro i x ys bF H' hx ⟨⟨u,rfl⟩,rfl,sF,s1⟩;have hi:i<os.length:=by have:=(Xc hx).1;simpa using this
   have ho:os[i]?=some os[i]:=by simp[hi]
   generalize os[i]=o at ho;have ex:x=bC o:=by
    rw[List.getElem?_map,ho]at hx;exact(Xs hx).symm
   subst ex;have iM:(((os.take i).filterMap id).map V.int).length<sizeLine:=a_ (by
    have:=List.length_filterMap_le id (os.take i);rw[List.length_take]at this;rw[List.length_map];omega)
   have e1:os.take (i+1)=os.take i++[o]:=by rw[List.take_succ,ho];rfl
   refine⟨_,rfl,_,rfl,?_⟩;cases o with
   |none=>
    refine ba (fun hh=>absurd hh (by simp[bC])) (fun _=>?_);exact⟨⟨_,rfl⟩,by rw[e1];simp,sF,s1⟩
   |some v=>
    refine ba (fun _=>?_) (fun hh=>absurd (by simp[bC]) hh);exact⟨_,rfl,sF,iM,⟨_,rfl⟩,by rw[e1];simp[bC],ae,s1.fD hD⟩
  ·rintro ys bF H' ⟨_,rfl,sF,s1⟩;rw[List.length_map,List.take_length]at sF;refine⟨D,os.filterMap id,rfl, .of sF,?_⟩;rw[E4];exact q H' s1
theorem Fx:aJ ["number","price"] ["number","price"] (aq YK):=⟨rfl,rfl,rfl,by decide+kernel,rfl,by decide+kernel,by decide+kernel⟩
include T in
theorem Fy{f:Addr}{fd:FuncData}(F:lD K "less" "less" YK f fd):a8 P w K mg base (dq P w) true 1 f fd ["number","price"] wc:=by
 refine F.iW Fx XA (fun cj A outer s H vs Q E hr h hX=>?_)
 ·obtain⟨o,p,rfl,_⟩:=h;rfl
 ·obtain⟨o,p,rfl,q⟩:=h;refine⟨_,(Xl (@aM _ _ _ _ (@pH _ _ _ _ _ _ _ _ (Xi (@qH _ _ _ _ _ (pv 0))) lA (Xf dM (pv 0) (pv 1))))),?_⟩;refine⟨_,rfl,_,rfl,?_⟩;cases o with
  |none=>
   refine mL ?_;exact q
  |some v=>
   refine ba (fun hh=>absurd hh (by simp[bC])) (fun _=>?_);exact⟨_,rfl,_,rfl,_,_,rfl,rfl,q⟩
theorem n_:aJ ["worth","brought"] ["worth","brought"] (aq fN):=⟨rfl,rfl,rfl,by decide+kernel,rfl,by decide+kernel,by decide+kernel⟩
include T in
theorem oa{f:Addr}{fd:FuncData}(F:lD K "begun_or_gone_on" "begun_or_gone_on" fN f fd):a8 P w K mg base (dq P w) true 1 f fd ["worth","brought"] YZ:=by
 refine F.iW n_ XA (fun cj A outer s H vs Q E hr h hX=>?_)
 ·obtain⟨w,b,rfl,_⟩:=h;rfl
 ·obtain⟨w,b,rfl,q⟩:=h;refine⟨_,(Xk (Xq (Xi (@qH _ _ _ _ _ (pv 0))) (Xl (@aM _ _ _ _ lA)) aS) (Xk (Xq (@PW.pt _ _ _ (@pw_or _ _ _ _ _ _ _ (Xi (@qH _ _ _ _ _ (pv 1))) (@pw_or1 _ _ _ _ (@aU _ _ _ _ _ _ _ _ rM (pv 1) aj (aW _))))) (Xl (@aM _ _ _ _ (pv 0))) aS) (Xl (@aM _ _ _ _ (Xf bA (pv 0) (pv 1)))))),?_⟩;refine⟨_,rfl,_,rfl,?_⟩;cases w with
  |none=>
   refine mL ?_;exact q
  |some w=>
   refine ba (fun hh=>absurd hh (by simp[bC])) (fun _=>?_);refine⟨_,rfl,_,rfl,?_⟩;cases b with
   |none=>
    refine mL ?_;refine mL ?_;exact⟨_,rfl,q⟩
   |some b=>
    refine ba (fun hh=>absurd hh (by simp[bC])) (fun _=>?_);refine⟨_,rfl,_,_,rfl,rfl,_,rfl,?_⟩;refine ba (fun hh=>?_) (fun hh=>?_)
    ·have hh:b<0:=by simpa using hh
     simp only[E3,hh,if_true]at q;exact⟨_,rfl,q⟩
    ·have hh:¬b<0:=by simpa using hh
     simp only[E3,hh,if_false]at q;exact⟨_,rfl,_,rfl,_,_,rfl,rfl,q⟩
variable(eZ:cc P w K mg base true 1 "greatest" ["numbers"] mR)
variable(lQ:cc P w K mg base true 1 "less" ["number","price"] wc)
variable(Rc:Z1 K az)
theorem bY:aJ ["self","ended","above","row","j","worth"] ["self","ended","above"] (aq dA):=⟨rfl,rfl,rfl,by decide+kernel,rfl,by decide+kernel,by decide+kernel⟩
include T eZ lQ Rc in
theorem kG{f:Addr}{fd:FuncData}(F:iY K "brought_behind" "Trails.brought_behind" dA f fd):a8 P w K mg base (dq P w) true 2 f fd ["self","ended","above"] (qW az):=by
 refine F.iW bY XA (fun cj A outer s H vs Q E hr h hX=>?_)
 ·obtain⟨x,e,a,dx,te,tb,o,p,m,f,g,rfl,_⟩:=h;rfl
 ·obtain⟨x,e,a,dx,te,tb,o,p,m,f1,g,rfl,hx,he,ha,hm,q⟩:=h;refine⟨_,(Xk (W_ (3) bY.nd (@bR _ _ _ _ (W9 lA af))) (Xk (@b_ _ _ _ _ _ _ _ _ hX.own Xw (@pX _ K _ _ _ _ _ _ _ Xw T.j9 (W9 (pv 1) af) (XD) (XD)) (@jf _ K _ _ _ (2) _ Xw (@br _ _ _ _ _ (Xa (4) bY.nd (Or.inl rfl)) (@br _ _ _ _ _ (Xa (5) bY.nd (Or.inl rfl)) jd (XD)) (XD)) (XD) (XD) (XD)) (Xl (@aY _ _ _ _ (Xg K PySem.F.plainAttrs_list PySem.F.slot_list_append PySem.F.type_list_append bJ (pv 3) (W9 (W' eZ aR (W9 (@bR _ _ _ _ (W9 (pv 5) (W9 (W' lQ aR (W9 (Xb (ar K) (pv 2) (Xf bA (pv 4) aj)) (W9 (Xd K (pv 0)) af))) (W9 (W' lQ aR (W9 (Xb (ar K) (pv 3) (pv 4)) (W9 (Xd K (pv 0)) af))) af)))) af)) af)) (XD))) (by intro _;rfl)) (Xl (@aM _ _ _ _ (pv 3))))),?_⟩;refine⟨aC Xy,fun r Ea=>?_⟩;refine⟨_,rfl,e,rfl,⟨_, .of (au.upd Ea _ _ he)⟩,?_⟩;have hl:=cV m f1;refine Z6 (xs:=cU m f1) (fun i σ H'=>(∃u v,σ=[some (.ref x),some (.ref e),some (.ref a),some (.ref r),u,v])∧au H H'∧H' r=some (.lst (cU (i+1) (sq f1 g o p)))) ?_ ?_ ?_ ?_
  ·exact⟨⟨_,_,rfl⟩,au.upd Ea,by rw[ae];simp[cU,sq,bC,List.range_succ]⟩
  ·rintro i σ H' _ ⟨_,s1,_⟩;exact .of (s1 _ _ he)
  ·rintro i v T' σ H' hv ⟨⟨u,u2,rfl⟩,s1,X5⟩ hT;have hi:i<m:=by have:=(Xc hv).1;omega
   rw[cW hi]at hv;cases hv;have s2:au H (upd H' T' (.tup [.int i,bC (f1 i)])):=s1.trans (au.upd hT);have wH:=au.upd (o:= .tup [.int i,bC (f1 i)]) hT _ _ X5;refine⟨T',_,rfl, .of ae,rfl,_,_,rfl,_,_,rfl,rfl,?_⟩;generalize upd H' T' (.tup [.int i,bC (f1 i)])=H2 at s2 wH;have U6:sP (cU (m+1) g) ((i:Int)+1)=some (bC (g (i+1))):=by
    have:((i:Int)+1)=((i+1:Nat):Int):=XB;rw[this];exact ax (cW Xz)
   have at2:sP (cU (i+1) (sq f1 g o p)) (i:Int)=some (bC (sq f1 g o p i)):=ax (cW Xz);refine⟨_,rfl, .inl ⟨rfl,_, .of wH⟩,_,rfl,_,rfl,_,rfl,_,_,rfl,rfl,a,_,_,_,rfl,rfl, .of (s2 _ _ ha),U6,_,rfl,x,az,dx,_,_,rfl,s2 _ _ hx,Rc.cl,Rc.out,Gv o p te tb,g (i+1),o,rfl,_,rfl,_,rfl,r,_,_,_,rfl,rfl, .of wH,at2,_,rfl,x,az,dx,_,_,rfl,s2 _ _ hx,Rc.cl,Rc.into,CL o p te tb,sq f1 g o p i,p,rfl,aC Xy,fun L hL=>⟨L,[f1 i,bp (g (i+1)) o,bp (sq f1 g o p i) p],rfl,ae,XE,fun H3 s3=>?_⟩⟩;have s4:=(au.upd (o:= .lst [bC (f1 i),bC (bp (g (i+1)) o),bC (bp (sq f1 g o p i) p)]) hL).trans s3;exact⟨r,_,_,rfl,rfl,s4 _ _ wH,a_ (by rw[cV];omega),⟨_,_,rfl⟩,(s2.trans s4).fD Ea,by rw[ae,qV (i+1)];rfl⟩
  ·rintro σ H' ⟨⟨u,v,rfl⟩,s1,X5⟩;rw[hl]at X5;exact⟨_,rfl,q H' r s1 Ea X5⟩
variable(dU:cc P w K mg base true 1 "begun_or_gone_on" ["worth","brought"] YZ)
variable(ck:ed P w K mg base true 2 az "brought_behind" ["self","ended","above"] (qW az))
theorem cF:aJ ["self","worths","terms","width","row","above","ended"] ["self","worths","terms"] (aq eE):=⟨rfl,rfl,rfl,by decide+kernel,rfl,by decide+kernel,by decide+kernel⟩
include T Tc Rc dU ck in
theorem o6{f:Addr}{fd:FuncData}(F:iY K "__init__" "Trails.__init__" eE f fd):a8 P w K mg base (dq P w) true 4 f fd ["self","worths","terms"] (rf az aQ):=by
 refine F.iW cF XA (fun cj A outer s H vs Q E hr h hX=>?_)
 ·obtain⟨x,dx,w,t,c,as,f,n,m,rfl,_⟩:=h;rfl
 ·obtain⟨x,dx,w,t,c,as,f1,n,m,rfl,hx,CJ,hw,TA,TF,hn,hm,q⟩:=h;obtain⟨nu,dt,l,d,vs,T1,e1,e2,e3,e4⟩:=TF;have Qi:w≠x:=jy hw hx (by intro z;cases z);have NU:t≠x:=fun z=>by
   have h1:=T1.ob;rw[z,hx]at h1;have h2:=congrArg (fun o=>match o with|some (HO.ins _ _ fs)=>fs.length| _=>0) h1;simp[vW]at h2
  refine⟨_,(Xn (Xr K (pv 0) (Xd K (pv 2))) (Xn (Xr K (pv 0) (Xd K (pv 2))) (Xn (W_ (3) cF.nd (@pH _ _ _ _ _ _ _ _ (@aU _ _ _ _ _ _ _ _ om (Xe (aP K) (by exact rfl) T.fz PyProof.Rows.Boot.«len» (W9 (pv 1) af)) aj (aW _)) (Xe (aP K) (by exact rfl) T.fz PyProof.Rows.Boot.«len» (W9 (Xb (ar K) (pv 1) aj) af)) aj)) (Xn (Xr K (pv 0) (@bR _ _ _ _ af)) (Xn (Xr K (pv 0) (@bR _ _ _ _ (W9 (Xf HX (@bR _ _ _ _ (W9 lA af)) (Xf bA (pv 3) aj)) af))) (Xl (@b_ _ _ _ _ _ _ _ _ hX.own Xw (@bE _ K _ _ _ (pv 1) (XD)) (Xa (4) cF.nd (Or.inl rfl)) (Xn (@aH _ _ (5) _ _ _ _ cF.nd Xw (Or.inr rfl) (Xb (ar K) (Xd K (pv 0)) (@rL _ _ _ _ _ _ mK aj)) (XD) (by exact .inl rfl)) (Xn (@pT _ _ _ _ _ _ _ _ _ _ _ _ _ _ _ (6) _ _ Xw cF.nd Xw (by exact rfl) (show bD ["self","worths","terms","width","row","above","ended"] (aq eE) _ ["j","worth"] [5] ["above"]from⟨rfl,by decide+kernel,by decide+kernel,by decide+kernel,rfl,rfl,by decide+kernel,by decide+kernel,by decide+kernel⟩) (@pX _ K _ _ _ _ _ _ _ Xw T.j9 (W9 (pv 4) af) (XD) (XD)) (fun _ _ _ _ _=>(@jf _ K _ _ _ (2) _ Xw (@br _ _ _ _ _ (Xa (0) (show(["j","worth","above"]:List Str).Nodup by decide+kernel) (Or.inl rfl)) (@br _ _ _ _ _ (Xa (1) (show(["j","worth","above"]:List Str).Nodup by decide+kernel) (Or.inl rfl)) jd (XD)) (XD)) (XD) (XD) (XD))) (fun _ _ _ _ _=>j8) (fun _ _ _ _ _=>(W' dU aR (W9 (pv 1) (W9 (Xb (ar K) (pv 2) (pv 0)) af)))) (XD) (by intro _;rfl)) (Xn (@aY _ _ _ _ (Xg K PySem.F.plainAttrs_list PySem.F.slot_list_append PySem.F.type_list_append bJ (Xd K (pv 0)) (W9 (pv 6) af)) (XD)) (Xl (@aY _ _ _ _ (Xg K PySem.F.plainAttrs_list PySem.F.slot_list_append PySem.F.type_list_append bJ (Xd K (pv 0)) (W9 (Xh (pv 0) ck (hr.mono (XC)) aR (W9 (pv 6) (W9 (pv 5) af))) af)) (XD)))))) (by intro _;rfl)))))))),?_⟩;refine⟨fun σ H1=>σ=[some (.ref x),some (.ref w),some (.ref t),none,none,none,none]∧H1=upd H x (.ins az dx (bf "out" (.int c.out) [])),?_,?_⟩
  ·refine⟨_,rfl,t,aQ,dt,_,_,rfl,T1.ob,Tc.cl,Tc.out,l_out nu l d,_,rfl,x,az,dx,_,rfl,hx,Rc.cl,Rc.out,XC,rfl,?_⟩;rw[e2]
  rintro σ H1 ⟨rfl,rfl⟩;refine⟨fun σ H1=>σ=[some (.ref x),some (.ref w),some (.ref t),none,none,none,none]∧H1=upd H x (.ins az dx (bf "into" (.int c.into) (bf "out" (.int c.out) []))),?_,?_⟩
  ·refine⟨_,rfl,t,aQ,dt,_,_,rfl,by rw[ai NU];exact T1.ob,Tc.cl,Tc.into,Ik nu l d,_,rfl,x,az,dx,_,rfl,ae,Rc.cl,Rc.into,?_,rfl,?_⟩
   ·have:=aV "out" (.int c.out) [];simp at this;omega
   ·rw[gf,e3]
  rintro σ H1 ⟨rfl,rfl⟩;refine⟨fun σ H1=>∃wd:Int,σ=[some (.ref x),some (.ref w),some (.ref t),some (.int wd),none,none,none]∧H1=upd H x (.ins az dx (bf "into" (.int c.into) (bf "out" (.int c.out) [])))∧(0<n→wd=(m:Int))∧0≤wd∧wd≤1000,?_,?_⟩
  ·have sG:upd H x (.ins az dx (bf "into" (.int c.into) (bf "out" (.int c.out) []))) w=some (.lst (as.map V.ref)):=by rw[ai Qi];exact hw
   have Aj:=TA.len;refine⟨_,rfl,w,_,rfl, .inl (.of sG),_,_,rfl,rfl,_,rfl,?_⟩;refine ba (fun hh=>?_) (fun hh=>?_)
   ·have hh:0<n:=by
     have:(0:Int)<((as.map V.ref).length:Int):=by simpa using hh
     rw[List.length_map]at this;omega
    obtain⟨a,XG,J',RS⟩:=TA.at hh;have Mj:a≠x:=jy RS hx (by intro z;cases z);have U7:upd H x (.ins az dx (bf "into" (.int c.into) (bf "out" (.int c.out) []))) a=some (.lst (cU m (f1 0))):=by rw[ai Mj];exact RS
    refine⟨_,rfl,w,_,0,_,rfl,rfl, .of sG,ax (j:=0) J',a,_,rfl, .inl (.of U7),_,rfl,rfl,fun _=>by rw[cV],by rw[cV];omega,by rw[cV];omega⟩
   ·have hh:n=0:=by
     have:¬(0:Int)<((as.map V.ref).length:Int):=by simpa using hh
     rw[List.length_map]at this;omega
    exact⟨_,rfl,rfl,fun z=>XB,XB,XB⟩
  rintro σ H1 ⟨wd,rfl,rfl,U8,WL,WM⟩;refine⟨fun σ H1=>∃e,σ=[some (.ref x),some (.ref w),some (.ref t),some (.int wd),none,none,none]∧H1 x=some (.ins az dx (bf "ending" (.ref e) (bf "into" (.int c.into) (bf "out" (.int c.out) []))))∧SameBut x H H1∧H e=none∧H1 e=some (.lst []),?_,?_⟩
  ·refine⟨aC Xy,fun e he=>?_⟩;have wY:SameBut x H (upd H x (.ins az dx (bf "into" (.int c.into) (bf "out" (.int c.out) [])))):=SameBut.refl.upd;have RT:x≠e:=aA ae he;have GR:=wY.free ae he;refine⟨_,rfl,x,az,dx,_,rfl,by rw[ai RT,ae],Rc.cl,Rc.lG,?_,e,rfl,ae,(wY.laid GR).upd,GR,by rw[ai (Ne.symm RT),ae]⟩;have a1:=aV "into" (.int c.into) (bf "out" (.int c.out) []);have a2:=aV "out" (.int c.out) [];simp at a2;omega
  rintro σ H1 ⟨e,rfl,n8,wY,GR,XF⟩;refine⟨fun σ H2=>∃b ab,σ=[some (.ref x),some (.ref w),some (.ref t),some (.int wd),none,none,none]∧H2 x=some (.ins az dx (gZ c.out c.into e b))∧SameBut x H H2∧H2 e=some (.lst [])∧H b=none∧e≠b∧H2 b=some (.lst [.ref ab])∧(0<n→H2 ab=some (.lst (cU (m+1) (Bq f1 c.out c.into 0))))∧ab≠e∧ab≠b∧H ab=none,?_,?_⟩
  ·refine⟨aC Xy,fun l1 mB=>⟨_,rfl,_,_,rfl,rfl,l1,_,_,rfl,rfl,ae,XB,XB,aC (by simp;omega),fun ab Dx=>⟨aC Xy,fun b hb=>?_⟩⟩⟩;have s1:au H1 (upd (upd (upd H1 l1 (.lst [.cI])) ab (.lst (List.replicate (wd+1).toNat [V.cI]).flatten)) b (.lst [.ref ab])):=((au.upd mB).trans (au.upd Dx)).trans (au.upd hb);have kF:H1 b=none:=((au.upd mB).trans (au.upd Dx)).free hb;have Ap:=s1 _ _ n8;have U9:x≠b:=aA n8 kF;have GU:ab≠b:=aA ae hb;refine⟨_,rfl,x,az,dx,_,rfl,Ap,Rc.cl,Rc.j_,?_,b,ab,rfl,by rw[ae,LL],(wY.same s1).upd,?_,wY.free n8 kF,aA XF kF,?_,fun h0=>?_,?_,GU,wY.free n8 ((au.upd mB).free Dx)⟩
   ·have a0:=aV "ending" (.ref e) (bf "into" (.int c.into) (bf "out" (.int c.out) []));have a1:=aV "into" (.int c.into) (bf "out" (.int c.out) []);have a2:=aV "out" (.int c.out) [];simp at a2;omega
   ·have:e≠x:=jy XF n8 (by intro z;cases z);rw[ai this];exact s1 _ _ XF
   ·rw[ai (Ne.symm U9),ae]
   ·have RU:ab≠x:=fun z=>by rw[z]at Dx;rw[(au.upd mB) _ _ n8]at Dx;cases Dx
    rw[ai RU,ai GU,ae,U8 h0]
    congr 1
    have:((m:Int)+1).toNat=m+1:=XB;rw[this]
    congr 1
    apply List.ext_getElem?;intro k;by_cases hk:k<m+1
    ·rw[cW hk,jg];simp[bC,hk]
    ·rw[List.getElem?_eq_none (by simp;omega),List.getElem?_eq_none (by rw[cV];omega)]
   ·exact Ne.symm (aA ((au.upd mB) _ _ XF) Dx)
  clear n8 wY XF H1;rintro σ H1 ⟨b,ab,rfl,n8,wY,XF,RV,RW,kF,Fz,Ml,GU,BG⟩;refine⟨_,rfl,w,rfl,⟨_, .of (wY _ _ Qi hw)⟩,?_⟩;refine cD (xs:=as.map V.ref) (fun i σ H'=>(∃u1 u2 u3,σ=[some (.ref x),some (.ref w),some (.ref t),some (.int wd),u1,u2,u3])∧H' x=some (.ins az dx (gZ c.out c.into e b))∧SameBut x H H'∧∃(es:List Addr)(bs:List V)(ab:Addr),H' e=some (.lst (es.map V.ref))∧jG H' es (dj f1 c.out c.into) i m∧(∀a∈es,H a=none∧a≠e∧a≠b∧a≠x)∧H' b=some (.lst (bs++[.ref ab]))∧bs.length=i∧(0<n→H' ab=some (.lst (cU (m+1) (Bq f1 c.out c.into i))))∧ab≠e∧ab≠b∧H ab=none∧∃bz:List Addr,bs=bz.map V.ref∧∀k a,bz[k]?=some a→H' a=some (.lst (cU (m+1) (Bq f1 c.out c.into k)))∧a≠e∧a≠b∧H a=none) ?_ ?_ ?_ ?_
  ·exact⟨⟨_,_,_,rfl⟩,n8,wY,[],[],ab,XF,⟨rfl,fun i a h=>by simp at h⟩,(fun a h=>by cases h),kF,rfl,Fz,Ml,GU,BG,[],rfl,fun k a h=>by simp at h⟩
  ·rintro i σ H' _ ⟨_,_,sb,_⟩;exact .of (sb _ _ Qi hw)
  ·clear n8 wY XF kF Fz Ml GU BG ab H1;rintro i v σ H' hv ⟨⟨u1,u2,u3,rfl⟩,n8,wY,es,bs,ab,XF,TE,Mm,kF,FA,Fz,Ml,GU,BG,bz,Mn,BZ⟩;have Aj:=TA.len;have hi:i<n:=by have:=(Xc hv).1;rw[List.length_map]at this;omega
   obtain⟨ra,Ea,X5,wH⟩:=TA.at hi;rw[X5]at hv;cases hv;have U_:ra≠x:=jy wH hx (by intro z;cases z);have NV:=wY _ _ U_ wH;have Bt:=Fz Xz;refine⟨fun σ H2=>σ=[some (.ref x),some (.ref w),some (.ref t),some (.int wd),some (.ref ra),some (.ref ab),u3]∧H2=H',?_,?_⟩
   ·exact⟨_,rfl,x,az,dx,_,_,rfl,n8,Rc.cl,Rc.j_,hJ c.out c.into e b,_,rfl,b,_,_,_,rfl,rfl, .of kF,ZK _ _,rfl,rfl⟩
   rintro σ H' ⟨rfl,rfl⟩;refine⟨fun σ H2=>∃D,σ=[some (.ref x),some (.ref w),some (.ref t),some (.int wd),some (.ref ra),some (.ref ab),some (.ref D)]∧au H' H2∧H' D=none∧H2 D=some (.lst (cU m (dj f1 c.out c.into i))),?_,?_⟩
   ·refine⟨_,rfl,ra,rfl,⟨_, .of NV⟩,fun D hD=>?_⟩;refine vf (xs:=cU m (f1 i)) (fun j ys bF H2=>(∃w1 w2,bF=[w1,w2,some (.ref ab)])∧ys=cU j (dj f1 c.out c.into i)∧H2 D=some (.lst ys)∧au H' H2) ⟨⟨_,_,rfl⟩,rfl,ae,au.upd hD⟩ ?_ ?_ ?_
    ·rintro j ys bF H2 _ ⟨_,_,_,s2⟩;exact .of (s2 _ _ NV)
    ·rintro j y T2 ys bF H2 hy ⟨⟨w1,w2,rfl⟩,rfl,m7,s2⟩ Mo;have hj:j<m:=by have:=(Xc hy).1;rw[cV]at this;exact this
     rw[cW hj]at hy;cases hy;have s3:au H' (upd H2 T2 (.tup [.int j,bC (f1 i j)])):=s2.trans (au.upd Mo);have Bs:=au.upd (o:= .tup [.int j,bC (f1 i j)]) Mo _ _ m7;refine⟨T2,_,rfl, .of ae,rfl,_,_,rfl,_,_,rfl,rfl,?_⟩;refine vT ?_;refine⟨_,rfl,_,rfl,_,rfl,ab,_,_,_,rfl,rfl, .of (s3 _ _ Bt),ax (cW Xz),f1 i j,Bq f1 c.out c.into i j,rfl,Bs,a_ (by rw[cV];omega),⟨_,_,rfl⟩,by rw[qV];rfl,ae,s3.fD hD⟩
    ·rintro ys bF H2 ⟨_,rfl,m7,s2⟩;rw[cV]at m7;exact⟨D,rfl,s2,hD,m7⟩
   rintro σ H2 ⟨D,rfl,s2,Kf,m7⟩;have Ap:=s2 _ _ n8;have Kg:=s2 _ _ XF;have wC:=s2 _ _ kF;have Qj:=s2 _ _ Bt;have U':D≠x:=Ne.symm (aA n8 Kf);have RX:D≠e:=Ne.symm (aA XF Kf);have RY:D≠b:=Ne.symm (aA kF Kf);have Va:e≠x:=jy XF n8 (by intro z;cases z);have Vc:b≠x:=jy kF n8 (by intro z;cases z);have RU:ab≠x:=jy Bt n8 (by intro z;cases z);have FC:=TE.len;have Ve:H D=none:=wY.free n8 Kf;have Qk:=wY.same s2;refine⟨fun σ H3=>σ=[some (.ref x),some (.ref w),some (.ref t),some (.int wd),some (.ref ra),some (.ref ab),some (.ref D)]∧H3=upd H2 e (.lst (es.map V.ref++[.ref D])),?_,?_⟩
   ·exact⟨_,rfl,x,az,dx,_,_,rfl,Ap,Rc.cl,Rc.lG,iR c.out c.into e b, .inl ⟨rfl,_, .of Kg⟩,_,rfl,e,_,_,rfl,rfl,Kg,a_ (by rw[List.length_map];omega),rfl,rfl⟩
   rintro σ H3 ⟨rfl,rfl⟩;have Kh:upd H2 e (.lst (es.map V.ref++[.ref D])) x=some (.ins az dx (gZ c.out c.into e b)):=by rw[ai (Ne.symm Va)];exact Ap
   have NW:upd H2 e (.lst (es.map V.ref++[.ref D])) b=some (.lst (bs++[.ref ab])):=by rw[ai (Ne.symm RW)];exact wC
   have JA:upd H2 e (.lst (es.map V.ref++[.ref D])) ab=some (.lst (cU (m+1) (Bq f1 c.out c.into i))):=by rw[ai Ml];exact Qj
   have Bs:upd H2 e (.lst (es.map V.ref++[.ref D])) D=some (.lst (cU m (dj f1 c.out c.into i))):=by rw[ai RX];exact m7
   have Eb:upd H2 e (.lst (es.map V.ref++[.ref D])) e=some (.lst (es.map V.ref++[.ref D])):=ae;have Ql:SameBut x H (upd H2 e (.lst (es.map V.ref++[.ref D]))):=Qk.laid GR;have RZ:∀k a,es[k]?=some a→upd H2 e (.lst (es.map V.ref++[.ref D])) a=some (.lst (cU m (dj f1 c.out c.into k))):=fun k a hk=>by
    rw[ai (Mm a (Xj hk)).2.1];exact s2 _ _ (TE.row k a hk)
   have R0:∀k a,bz[k]?=some a→upd H2 e (.lst (es.map V.ref++[.ref D])) a=some (.lst (cU (m+1) (Bq f1 c.out c.into k))):=fun k a hk=>by
    rw[ai (BZ k a hk).2.1];exact s2 _ _ (BZ k a hk).1
   generalize upd H2 e (.lst (es.map V.ref++[.ref D]))=H3 at Kh NW JA Bs Eb Ql RZ R0;refine⟨_,rfl,x,az,dx,_,_,rfl,Kh,Rc.cl,Rc.j_,hJ c.out c.into e b, .inl ⟨rfl,_, .of NW⟩,_,rfl,x,dx,_,rfl,Kh,CM c.out c.into e b,_,rfl,_,rfl,x,D,ab,dx,e,b,c.out,c.into,m,_,_,rfl,Kh,Bs,JA,hm,fun H4 r s4 rZ Vf=>?_⟩;have R1:r≠b:=Ne.symm (aA NW rZ);have Vg:r≠e:=Ne.symm (aA Eb rZ);refine⟨b,_,_,rfl,rfl,s4 _ _ NW,a_ (by rw[List.length_append];simp;omega),⟨_,_,_,rfl⟩,by rw[ai (Ne.symm Vc)];exact s4 _ _ Kh,(Ql.same s4).laid RV,es++[D],bs++[.ref ab],r,by rw[ai RW];rw[s4 _ _ Eb];simp,⟨by simp[FC],fun k a hk=>?_⟩,fun a ha=>?_,ae,by simp[FA],fun _=>?_,Vg,R1,Ql.free Kh rZ,bz++[ab],by simp[Mn],fun k a hk=>?_⟩
   ·by_cases h:k<i
    ·rw[List.getElem?_append_left Xz]at hk;rw[ai (Mm a (Xj hk)).2.2.1];exact s4 _ _ (RZ k a hk)
    ·rw[List.getElem?_append_right Xz]at hk;have X9:k-es.length=0:=by
      have:=(Xc hk).1;simp at this;omega
     rw[X9]at hk;have:D=a:=by simpa using hk
     subst this;rw[ai RY];have:k=i:=XB;rw[this];exact s4 _ _ Bs
   ·rcases List.mem_append.mp ha with ha|ha
    ·exact Mm a ha
    ·have:a=D:=by simpa using ha
     rw[this];exact⟨Ve,RX,RY,U'⟩
   ·rw[ai R1,Vf]
    congr 2
    unfold cU;apply List.map_congr_left;intro j _;rw[Yp]
   ·have Mp:bz.length=i:=by rw[Mn,List.length_map]at FA;exact FA
    by_cases h:k<i
    ·rw[List.getElem?_append_left Xz]at hk;obtain⟨_,z1,z2,z3⟩:=BZ k a hk;exact⟨by rw[ai z2];exact s4 _ _ (R0 k a hk),z1,z2,z3⟩
    ·rw[List.getElem?_append_right Xz]at hk;have X9:k-bz.length=0:=by
      have:=(Xc hk).1;simp at this;omega
     rw[X9]at hk;have:ab=a:=by simpa using hk
     subst this;have:k=i:=XB;subst this;exact⟨by rw[ai GU];exact s4 _ _ JA,Ml,GU,BG⟩
  ·rintro σ H' ⟨⟨u1,u2,u3,rfl⟩,Ap,Qk,es,bs,Qm,Kg,TE,Mm,wC,FA,Bt,Vh,Vi,J',bz,Mn,BZ⟩;rw[List.length_map,TA.len]at TE FA Bt;have Mp:bz.length=n:=by rw[Mn,List.length_map]at FA;exact FA
   refine q H' e b Qk Ap ⟨es,Kg,GR,TE,fun a ha=>(Mm a ha).1⟩ fun Qn=>⟨bz++[Qm],by rw[wC,Mn];simp,RV,⟨by simp[Mp],fun k a hk=>?_⟩,fun a ha=>?_⟩
   ·by_cases h:k<n
    ·rw[List.getElem?_append_left Xz]at hk;exact(BZ k a hk).1
    ·rw[List.getElem?_append_right Xz]at hk;have X9:k-bz.length=0:=by
      have:=(Xc hk).1;simp at this;omega
     rw[X9]at hk;have:Qm=a:=by simpa using hk
     subst this;have:k=n:=XB;subst this;exact Bt Qn
   ·rcases List.mem_append.mp ha with ha|ha
    ·obtain⟨k,hk,rfl⟩:=List.mem_iff_getElem.mp ha;exact(BZ k _ (by simp[hk])).2.2.2
    ·have:a=Qm:=by simpa using ha
     rw[this];exact J'
theorem ke:aJ ["self","pair","brought"] ["self","pair"] (aq hV):=⟨rfl,rfl,rfl,by decide+kernel,rfl,by decide+kernel,by decide+kernel⟩
include T Rc in
theorem qd{f:Addr}{fd:FuncData}(F:iY K "goes_on" "Trails.goes_on" hV f fd):a8 P w K mg base (dq P w) true 1 f fd ["self","pair"] (wm az):=by
 refine F.iW ke XA (fun cj A outer s H vs Q E hr h hX=>?_)
 ·obtain⟨x,dx,e,b,es,bs,f,o,p,n,m,pr,i,j,rfl,_⟩:=h;rfl
 ·obtain⟨x,dx,e,b,es,bs,f1,o,p,n,m,pr,i,j,rfl,TR,Aq,hi,hj,q⟩:=h;refine⟨_,(Xk (W_ (2) ke.nd (Xb (ar K) (Xb (ar K) (Xd K (pv 0)) (Xb (du K) (pv 1) aj)) (Xb (du K) (pv 1) aj))) (Xl (@aM _ _ _ _ (@vD _ _ _ _ _ _ _ (@Y_ _ _ _ _ _ _ (@pG _ _ _ _ _ (pv 2)) (by first|exact bq _ (XC) (XC)|rfl)) (@vC _ _ _ _ _ (@j7 _ _ _ _ _ _ _ _ F6 (pv 2) aj (aW _))))))),?_⟩;obtain⟨ra,h1,h2,h3⟩:=TR.tb.at (show i<n+1 by omega);refine⟨_,rfl,x,az,dx,_,_,rfl,TR.ob,Rc.cl,Rc.j_,hJ o p e b,_,rfl,pr,_,_,_,rfl,rfl, .of Aq,ax (j:=0) rfl,b,_,_,_,rfl,rfl, .of TR.hb,ax h2,_,rfl,pr,_,_,_,rfl,rfl, .of Aq,ax (j:=1) rfl,ra,_,_,_,rfl,rfl, .of h3,ax (cW (show j<m+1 by omega)),?_⟩;refine⟨_,rfl,?_⟩;cases eB:Bq f1 o p i j with
  |none=>
   rw[eB]at q;exact⟨_,rfl,ba (fun hh=>absurd hh (by simp[bC])) fun _=>q⟩
  |some v=>
   rw[eB]at q;exact⟨_,rfl,ba (fun _=>⟨_,rfl,_,_,rfl,rfl,q⟩) fun hh=>absurd (by simp[bC]) hh⟩
theorem ll:aJ ["self","crossing","pair"] ["self","crossing","pair"] (aq dQ):=⟨rfl,rfl,rfl,by decide+kernel,rfl,by decide+kernel,by decide+kernel⟩
include T Rc in
theorem lp{f:Addr}{fd:FuncData}(F:iY K "is_brought_by" "Trails.is_brought_by" dQ f fd):a8 P w K mg base (dq P w) true 1 f fd ["self","crossing","pair"] (YN az):=by
 refine F.iW ll XA (fun cj A outer s H vs Q E hr h hX=>?_)
 ·obtain⟨x,dx,e,b,es,bs,f,o,p,n,m,cr,pr,i,j,k,l,rfl,_⟩:=h;rfl
 ·obtain⟨x,dx,e,b,es,bs,f1,o,p,n,m,cr,pr,i,j,k,l,rfl,TR,GV,Aq,hi,hj,hk,hl,q⟩:=h;refine⟨_,(Xl (@aM _ _ _ _ (@j7 _ _ _ _ _ _ _ _ jA (Xb (ar K) (Xb (ar K) (Xd K (pv 0)) (Xb (du K) (pv 2) aj)) (Xb (du K) (pv 2) aj)) (Xb (ar K) (Xb (ar K) (Xd K (pv 0)) (Xb (du K) (pv 1) aj)) (Xb (du K) (pv 1) aj)) (aW _)))),?_⟩;obtain⟨ra,h1,h2,h3⟩:=TR.tb.at (show i<n+1 by omega);obtain⟨rb,g1,g2,g3⟩:=TR.te.at hk;refine⟨_,rfl,x,az,dx,_,_,rfl,TR.ob,Rc.cl,Rc.lG,iR o p e b,_,rfl,pr,_,_,_,rfl,rfl, .of Aq,ax (j:=0) rfl,e,_,_,_,rfl,rfl, .of TR.he,ax g2,_,rfl,pr,_,_,_,rfl,rfl, .of Aq,ax (j:=1) rfl,rb,_,_,_,rfl,rfl, .of g3,ax (cW hl),?_⟩;refine⟨_,rfl,x,az,dx,_,_,rfl,TR.ob,Rc.cl,Rc.j_,hJ o p e b,_,rfl,cr,_,_,_,rfl,rfl, .of GV,ax (j:=0) rfl,b,_,_,_,rfl,rfl, .of TR.hb,ax h2,_,rfl,cr,_,_,_,rfl,rfl, .of GV,ax (j:=1) rfl,ra,_,_,_,rfl,rfl, .of h3,ax (cW (show j<m+1 by omega)),?_⟩;have GW:∀a c:Option Int,decide (bC a=bC c)=decide (a=c):=fun a c=>by cases a<;>cases c<;>simp[bC]
  refine⟨by cases dj f1 o p k l<;>cases Bq f1 o p i j<;>rfl,?_⟩;rw[GW];exact q
theorem bb:aJ ["self","crossing","i","j","brought","found"] ["self","crossing"] (aq cK):=⟨rfl,rfl,rfl,by decide+kernel,rfl,by decide+kernel,by decide+kernel⟩
include T lQ Rc in
theorem jN{f:Addr}{fd:FuncData}(F:iY K "crossings_before" "Trails.crossings_before" cK f fd):a8 P w K mg base (dq P w) true 2 f fd ["self","crossing"] (tR az):=by
 refine F.iW bb XA (fun cj A outer s H vs Q E hr h hX=>?_)
 ·obtain⟨x,dx,e,b,es,bs,f,o,p,n,m,cr,i,j,rfl,_⟩:=h;rfl
 ·obtain⟨x,dx,e,b,es,bs,f1,o,p,n,m,cr,i,j,rfl,TR,GV,hi,hj,q⟩:=h;refine⟨_,(Xn (W_ (2) bb.nd (Xb (du K) (pv 1) aj)) (Xn (W_ (3) bb.nd (Xb (du K) (pv 1) aj)) (Xn (W_ (4) bb.nd (Xb (ar K) (Xb (ar K) (Xd K (pv 0)) (pv 2)) (pv 3))) (Xn (W_ (5) bb.nd (@bR _ _ _ _ af)) (Xn (Xq (@aU _ _ _ _ _ _ _ _ jA (W' lQ aR (W9 (Xb (ar K) (Xb (ar K) (Xd K (pv 0)) (Xf dM (pv 2) aj)) (pv 3)) (W9 (Xd K (pv 0)) af))) (pv 4) (aW _)) (Xl (@aY _ _ _ _ (Xg K PySem.F.plainAttrs_list PySem.F.slot_list_append PySem.F.type_list_append bJ (pv 5) (W9 (@fB _ _ _ _ _ (W9 (Xf dM (pv 2) aj) (W9 (pv 3) af))) af)) (XD))) aS) (Xn (Xq (@aU _ _ _ _ _ _ _ _ jA (W' lQ aR (W9 (Xb (ar K) (Xb (ar K) (Xd K (pv 0)) (pv 2)) (Xf dM (pv 3) aj)) (W9 (Xd K (pv 0)) af))) (pv 4) (aW _)) (Xl (@aY _ _ _ _ (Xg K PySem.F.plainAttrs_list PySem.F.slot_list_append PySem.F.type_list_append bJ (pv 5) (W9 (@fB _ _ _ _ _ (W9 (pv 2) (W9 (Xf dM (pv 3) aj) af))) af)) (XD))) aS) (Xl (@aM _ _ _ _ (pv 5))))))))),?_⟩;have GW:∀a c:Option Int,decide (bC a=bC c)=decide (a=c):=fun a c=>by cases a<;>cases c<;>simp[bC]
  obtain⟨ra,h1,h2,h3⟩:=TR.tb.at (show i<n+1 by omega);obtain⟨rb,g1,g2,g3⟩:=TR.tb.at (show i+1<n+1 by omega);refine⟨fun σ H1=>σ=[some (.ref x),some (.ref cr),some (.int ((i+1:Nat):Int)),none,none,none]∧H1=H,⟨_,rfl,cr,_,_,_,rfl,rfl, .of GV,ax (j:=0) rfl,rfl,rfl⟩,?_⟩;rintro σ H ⟨rfl,rfl⟩;refine⟨fun σ H1=>σ=[some (.ref x),some (.ref cr),some (.int ((i+1:Nat):Int)),some (.int ((j+1:Nat):Int)),none,none]∧H1=H,⟨_,rfl,cr,_,_,_,rfl,rfl, .of GV,ax (j:=1) rfl,rfl,rfl⟩,?_⟩;rintro σ H ⟨rfl,rfl⟩;refine⟨fun σ H1=>σ=[some (.ref x),some (.ref cr),some (.int ((i+1:Nat):Int)),some (.int ((j+1:Nat):Int)),some (bC (Bq f1 o p (i+1) (j+1))),none]∧H1=H,⟨_,rfl,x,az,dx,_,_,rfl,TR.ob,Rc.cl,Rc.j_,hJ o p e b,_,rfl,b,_,_,_,rfl,rfl, .of TR.hb,ax g2,_,rfl,rb,_,_,_,rfl,rfl, .of g3,ax (cW (show j+1<m+1 by omega)),rfl,rfl⟩,?_⟩;rintro σ H ⟨rfl,rfl⟩;refine⟨fun σ H1=>∃r,σ=[some (.ref x),some (.ref cr),some (.int ((i+1:Nat):Int)),some (.int ((j+1:Nat):Int)),some (bC (Bq f1 o p (i+1) (j+1))),some (.ref r)]∧au H H1∧H r=none∧H1 r=some (.lst []),⟨aC Xy,fun r hr=>⟨r,rfl,au.upd hr,hr,ae⟩⟩,?_⟩;rintro σ H1 ⟨r,rfl,s1,rZ,Ea⟩;refine⟨fun σ H2=>∃us,σ=[some (.ref x),some (.ref cr),some (.int ((i+1:Nat):Int)),some (.int ((j+1:Nat):Int)),some (bC (Bq f1 o p (i+1) (j+1))),some (.ref r)]∧au H H2∧H2 r=some (.lst us)∧iQ H2 us (if bp (Bq f1 o p i (j+1)) o=Bq f1 o p (i+1) (j+1)then[((i:Int),((j+1:Nat):Int))]else[]),?_,?_⟩
  ·have T1:=TR.keep s1;have ea:sP (bs.map V.ref) (((i+1:Nat):Int)-1)=some (.ref ra):=by
    rw[show((i+1:Nat):Int)-1=(i:Int) by omega];exact ax h2
   refine⟨_,rfl,x,az,dx,_,_,rfl,T1.ob,Rc.cl,Rc.j_,hJ o p e b,_,rfl,_,_,rfl,rfl,b,_,_,_,rfl,rfl, .of T1.hb,ea,_,rfl,ra,_,_,_,rfl,rfl, .of (s1 _ _ h3),ax (cW (show j+1<m+1 by omega)),?_⟩;refine⟨_,rfl,x,az,dx,_,_,rfl,T1.ob,Rc.cl,Rc.out,Gv o p e b,Bq f1 o p i (j+1),o,rfl,?_⟩;refine⟨_,rfl,by cases bp (Bq f1 o p i (j+1)) o<;>cases Bq f1 o p (i+1) (j+1)<;>rfl,_,rfl,?_⟩;rw[GW];refine ba (fun hh=>?_) (fun hh=>?_)
   ·have hh:bp (Bq f1 o p i (j+1)) o=Bq f1 o p (i+1) (j+1):=of_decide_eq_true hh;rw[Xp hh];refine⟨_,rfl, .inl ⟨rfl,_, .of Ea⟩,_,rfl,_,_,rfl,rfl,_,rfl,aC Xy,fun t ht=>?_⟩;refine⟨r,_,_,rfl,rfl,au.upd ht _ _ Ea,a_ Xy,_,rfl,(s1.trans (au.upd ht)).fD rZ,ae,rfl,fun k f hf=>?_⟩;have hk:k=0:=by
     have:=(Xc hf).1;simp at this;omega
    subst hk;have hf:((i:Int),((j+1:Nat):Int))=f:=by simpa using hf
    subst hf;refine⟨t,rfl,?_⟩;rw[ai (fun z=>by subst z;rw[Ea]at ht;cases ht),ae];rw[show((i+1:Nat):Int)-1=(i:Int) by omega];rfl
   ·have hh:¬bp (Bq f1 o p i (j+1)) o=Bq f1 o p (i+1) (j+1):=by simpa using hh
    rw[Xm hh];exact⟨[],rfl,s1,Ea, .nil⟩
  rintro σ H2 ⟨us,rfl,s2,X5,P2⟩;have T2:=TR.keep s2;have WN:us.length≤1:=by
   rw[P2.1];split<;>simp
  have eb:sP (cU (m+1) (Bq f1 o p (i+1))) (((j+1:Nat):Int)-1)=some (bC (Bq f1 o p (i+1) j)):=by
   rw[show((j+1:Nat):Int)-1=(j:Int) by omega];exact ax (cW (show j<m+1 by omega))
  refine⟨fun σ H3=>∃us,σ=[some (.ref x),some (.ref cr),some (.int ((i+1:Nat):Int)),some (.int ((j+1:Nat):Int)),some (bC (Bq f1 o p (i+1) (j+1))),some (.ref r)]∧au H H3∧H3 r=some (.lst us)∧iQ H3 us (bg f1 o p i j),?_,?_⟩
  ·refine⟨_,rfl,x,az,dx,_,_,rfl,T2.ob,Rc.cl,Rc.j_,hJ o p e b,_,rfl,b,_,_,_,rfl,rfl, .of T2.hb,ax g2,_,rfl,_,_,rfl,rfl,rb,_,_,_,rfl,rfl, .of (s2 _ _ g3),eb,?_⟩;refine⟨_,rfl,x,az,dx,_,_,rfl,T2.ob,Rc.cl,Rc.into,CL o p e b,Bq f1 o p (i+1) j,p,rfl,?_⟩;refine⟨_,rfl,by cases bp (Bq f1 o p (i+1) j) p<;>cases Bq f1 o p (i+1) (j+1)<;>rfl,_,rfl,?_⟩;rw[GW];refine ba (fun hh=>?_) (fun hh=>?_)
   ·have hh:bp (Bq f1 o p (i+1) j) p=Bq f1 o p (i+1) (j+1):=of_decide_eq_true hh;refine⟨_,rfl, .inl ⟨rfl,_, .of X5⟩,_,rfl,_,rfl,_,_,rfl,rfl,aC Xy,fun t ht=>?_⟩;have s3:=au.upd (o:= .tup [.int ((i+1:Nat):Int), .int (((j+1:Nat):Int)-1)]) ht;have R3:t≠r:=fun z=>by subst z;rw[X5]at ht;cases ht
    refine⟨r,_,_,rfl,rfl,s3 _ _ X5,a_ Xz,_,rfl,(s2.trans s3).fD rZ,ae,?_⟩;unfold bg;rw[Xp hh];refine((P2.same s3).append ⟨rfl,fun k f hf=>?_⟩).cq fun a ys ha=>?_
    ·have hk:k=0:=by
      have:=(Xc hf).1;simp at this;omega
     subst hk;have hf:(((i+1:Nat):Int),(j:Int))=f:=by simpa using hf
     subst hf;refine⟨t,rfl,?_⟩;rw[ae,show((j+1:Nat):Int)-1=(j:Int) by omega];rfl
    ·have f9:a≠r:=fun z=>by subst z;rw[s3 _ _ X5]at ha;cases ha
     rw[ai f9];exact ha
   ·have hh:¬bp (Bq f1 o p (i+1) j) p=Bq f1 o p (i+1) (j+1):=by simpa using hh
    refine⟨us,rfl,s2,X5,?_⟩;unfold bg;rw[Xm hh,List.append_nil];exact P2
  rintro σ H3 ⟨us,rfl,s3,wH,P3⟩;exact⟨_,rfl,q H3 r us s3 rZ wH P3⟩
variable(a9:ed P w K mg base true 1 az "is_brought_by" ["self","crossing","pair"] (YN az))
variable(aX:ed P w K mg base true 2 az "crossings_before" ["self","crossing"] (tR az))
theorem bN:aJ ["self","pair","crossing","ahead"] ["self","pair"] (aq eU):=⟨rfl,rfl,rfl,by decide+kernel,rfl,by decide+kernel,by decide+kernel⟩
include T Rc a9 aX in
theorem mE{f:Addr}{fd:FuncData}(F:iY K "pair_before" "Trails.pair_before" eU f fd):a8 P w K mg base (dq P w) true 3 f fd ["self","pair"] (wo az):=by
 refine F.iW bN XA (fun cj A outer s H vs Q E hr h hX=>?_)
 ·obtain⟨x,dx,e,b,es,bs,f,o,p,n,m,pr,i,j,rfl,_⟩:=h;rfl
 ·obtain⟨x,dx,e,b,es,bs,f1,o,p,n,m,pr,i,j,rfl,TR,Aq,hi,hj,hB,q⟩:=h;refine⟨_,(Xk (W_ (2) bN.nd (pv 1)) (Xk (W_ (3) bN.nd (@fB _ _ _ _ _ (W9 (Xf dM (Xb (du K) (pv 2) aj) aj) (W9 (Xf dM (Xb (du K) (pv 2) aj) aj) af)))) (Xk (@s_ _ _ _ _ _ _ hX.own (@g8 _ _ _ _ (@eM _ _ _ (Xh (pv 0) a9 (hr.mono (XC)) aR (W9 (pv 2) (W9 (pv 3) af))) (by intro _;rfl))) (Xk (W_ (2) bN.nd (Xb (ar K) (Xh (pv 0) aX (hr.mono (XC)) aR (W9 (pv 2) af)) aj)) (Xl (W_ (3) bN.nd (@fB _ _ _ _ _ (W9 (Xf dM (Xb (du K) (pv 2) aj) aj) (W9 (Xf dM (Xb (du K) (pv 2) aj) aj) af))))))) (Xl (@aM _ _ _ _ (pv 3)))))),?_⟩;obtain⟨i,rfl⟩:∃i',i=i'+1:=by
   cases i with
   |zero=>exact absurd (jg f1 o p j) hB
   |succ i=>exact⟨i,rfl⟩
  obtain⟨j,rfl⟩:∃j',j=j'+1:=by
   cases j with
   |zero=>exact absurd (by unfold Bq;rfl) hB
   |succ j=>exact⟨j,rfl⟩
  refine⟨_,rfl,_,rfl,pr,_,_,_,rfl,rfl, .of Aq,ax (j:=0) rfl,_,_,rfl,rfl,_,rfl,pr,_,_,_,rfl,rfl, .of Aq,ax (j:=1) rfl,_,_,rfl,rfl,aC Xy,fun t ht=>?_⟩;refine⟨fun mm σ H1=>∃(cr ah:Addr)(i2 j2:Nat),mm=i2+j2∧σ=[some (.ref x),some (.ref pr),some (.ref cr),some (.ref ah)]∧au H H1∧H1 cr=some (.tup [.int ((i2+1:Nat):Int), .int ((j2+1:Nat):Int)])∧H1 ah=some (.tup [.int i2, .int j2])∧i2<n∧j2<m∧Bq f1 o p (i2+1) (j2+1)≠none∧cC f1 o p (i2+1) (j2+1)=cC f1 o p (i+1) (j+1),⟨i+j,pr,t,i,j,rfl,rfl,au.upd ht,au.upd ht _ _ Aq,?_,XB,XB,hB,rfl⟩,?_⟩
  ·rw[ae,show((i+1:Nat):Int)-1=(i:Int) by omega,show((j+1:Nat):Int)-1=(j:Int) by omega]
  rintro mm σ H1 ⟨cr,ah,i2,j2,rfl,rfl,s1,GV,R4,D7,Qo,Ki,R5⟩;have T1:=TR.keep s1;refine⟨_,rfl,x,dx,_,rfl,T1.ob,GH o p e b,_,rfl,_,rfl,x,dx,e,b,es,bs,f1,o,p,n,m,cr,ah,i2+1,j2+1,i2,j2,rfl,T1,GV,R4,XB,XB,D7,Qo,?_⟩;refine⟨_,rfl,?_⟩;by_cases hE:dj f1 o p i2 j2=Bq f1 o p (i2+1) (j2+1)
  ·rw[decide_eq_true hE];refine jD ?_;refine⟨_,rfl,q H1 ah s1 ?_⟩;have:cC f1 o p (i2+1) (j2+1)=(i2,j2):=by unfold cC;rw[Xp hE]
   rw[←R5,this];exact R4
  ·rw[decide_eq_false hE];refine mL ?_;refine⟨_,fun bF H' z=>z,?_⟩;obtain⟨i3,j3,c0,c1,c2,c3,c4,c5⟩:=Zy Ki hE;refine⟨_,rfl,x,dx,_,rfl,T1.ob,Ad o p e b,_,rfl,x,dx,e,b,es,bs,f1,o,p,n,m,cr,i2,j2,rfl,T1,GV,D7,Qo,fun H2 r us s2 rZ X5 P2=>?_⟩;obtain⟨t2,k1,k2⟩:=P2.2 0 _ c0;refine⟨r,_,_,_,rfl,rfl, .of X5,ax (j:=0) k1,?_⟩;refine⟨_,rfl,t2,_,_,_,rfl,rfl, .of k2,ax (j:=0) rfl,_,_,rfl,rfl,_,rfl,t2,_,_,_,rfl,rfl, .of k2,ax (j:=1) rfl,_,_,rfl,rfl,aC Xy,fun t3 R6=>?_⟩;refine⟨i3+j3,XB,t2,t3,i3,j3,rfl,rfl,s1.trans (s2.trans (au.upd R6)),au.upd R6 _ _ k2,?_,XB,XB,c4,by rw[c5,R5]⟩;rw[ae];show some (HO.tup [.int (((i3+1:Nat):Int)-1), .int (((j3+1:Nat):Int)-1)])=_;rw[show((i3+1:Nat):Int)-1=(i3:Int) by omega,show((j3+1:Nat):Int)-1=(j3:Int) by omega]
variable(bT:ed P w K mg base true 1 az "goes_on" ["self","pair"] (wm az))
variable(cY:ed P w K mg base true 3 az "pair_before" ["self","pair"] (wo az))
theorem lq:aJ ["self","pair","way"] ["self","pair"] (aq i5):=⟨rfl,rfl,rfl,by decide+kernel,rfl,by decide+kernel,by decide+kernel⟩
include T Rc bT cY in
theorem rp{f:Addr}{fd:FuncData}(F:iY K "way_to" "Trails.way_to" i5 f fd):a8 P w K mg base (dq P w) true 4 f fd ["self","pair"] (YJ az):=by
 refine F.iW lq XA (fun cj A outer s H vs Q E hr h hX=>?_)
 ·obtain⟨x,dx,e,b,es,bs,f,o,p,n,m,pr,i,j,rfl,_⟩:=h;rfl
 ·obtain⟨x,dx,e,b,es,bs,f1,o,p,n,m,pr,i,j,rfl,TR,Aq,hi,hj,hn,q⟩:=h;refine⟨_,(Xk (W_ (2) lq.nd (@bR _ _ _ _ (W9 (pv 1) af))) (Xk (@s_ _ _ _ _ _ _ hX.own (@eM _ _ _ (Xh (pv 0) bT (hr.mono (XC)) aR (W9 (Xb (ar K) (pv 2) (@rL _ _ _ _ _ _ mK aj)) af)) (by intro _;rfl)) (Xl (@aY _ _ _ _ (Xg K PySem.F.plainAttrs_list PySem.F.slot_list_append PySem.F.type_list_append bJ (pv 2) (W9 (Xh (pv 0) cY (hr.mono (XC)) aR (W9 (Xb (ar K) (pv 2) (@rL _ _ _ _ _ _ mK aj)) af)) af)) (XD)))) (Xk (@aY _ _ _ _ (@EY _ K _ _ _ _ _ _ _ _ PySem.F.plainAttrs_list PySem.F.slot_list_reverse PySem.F.type_list_reverse Zm (pv 2) (XD) (XD) (XD)) (XD)) (Xl (@aM _ _ _ _ (pv 2)))))),?_⟩;refine⟨_,rfl,aC Xy,fun w hw=>?_⟩;refine⟨fun mm σ H1=>∃(us:List V)(A:List (Nat×Nat))(i2 j2:Nat),mm=i2∧σ=[some (.ref x),some (.ref pr),some (.ref w)]∧au H H1∧H1 w=some (.lst us)∧iQ H1 us ((A++[(i2,j2)]).map aK)∧i2<n∧j2<m∧A.length+i2≤i∧eh f1 o p i i j=eh f1 o p i2 i2 j2++A.reverse,⟨i,_,[],i,j,rfl,rfl,au.upd hw,ae,⟨rfl,fun k g hg=>?_⟩,hi,hj,XE,XE⟩,?_⟩
  ·have hk:k=0:=by
    have:=(Xc hg).1;simp at this;omega
   subst hk;have hg:aK (i,j)=g:=by simpa using hg
   subst hg;exact⟨pr,rfl,au.upd hw _ _ Aq⟩
  rintro i2 σ H1 ⟨us,A,_,j2,rfl,rfl,s1,sG,P1,D7,Qo,hA,Mq⟩;have T1:=TR.keep s1;obtain⟨t,Ao,wX⟩:=P1.last Xy;rw[List.map_append,List.map_singleton,ZM]at wX;have hlen:us.length≤1001:=by have:=P1.1;simp at this;omega
  refine⟨_,rfl,x,dx,_,rfl,T1.ob,Du o p e b,_,rfl,_,rfl,w,_,_,_,rfl,rfl, .of sG,Ao,x,dx,e,b,es,bs,f1,o,p,n,m,t,i2,j2,rfl,T1,wX,XB,XB,?_⟩;refine⟨_,rfl,?_⟩;refine ba (fun hh=>?_) (fun hh=>?_)
  ·obtain⟨c1,c2,c3⟩:=la hh;have hl:=(lI f1 o p i2 j2 c1 c2).resolve_right c3;refine⟨_,fun bF H' z=>z,?_⟩;refine⟨_,rfl, .inl ⟨rfl,_, .of sG⟩,_,rfl,x,dx,_,rfl,T1.ob,Jk o p e b,_,rfl,_,rfl,w,_,_,_,rfl,rfl, .of sG,Ao,x,dx,e,b,es,bs,f1,o,p,n,m,t,i2,j2,rfl,T1,wX,XB,XB,c3,fun H2 r s2 hr=>?_⟩;have WO:r≠w:=fun z=>by subst z;rw[s2 _ _ sG]at hr;cases hr
   refine⟨w,_,_,rfl,rfl,s2 _ _ sG,a_ Xz,(cC f1 o p i2 j2).1,hl.1,us++[.ref r],A++[(i2,j2)],_,(cC f1 o p i2 j2).2,rfl,rfl,(s1.trans s2).fD hw,ae,?_,XB,XB,by simp;omega,?_⟩
   ·rw[List.map_append];refine((P1.same s2).append ⟨rfl,fun k g hg=>?_⟩).cq fun a ys ha=>?_
    ·have hk:k=0:=by
      have:=(Xc hg).1;simp at this;omega
     subst hk;have hg:aK ((cC f1 o p i2 j2).1,(cC f1 o p i2 j2).2)=g:=by simpa using hg
     subst hg;exact⟨r,rfl,hr⟩
    ·have f9:a≠w:=fun z=>by subst z;rw[s2 _ _ sG]at ha;cases ha
     rw[ai f9];exact ha
   ·rw[Mq,vn hh];simp
  ·have hh:¬g7 (Bq f1 o p i2 j2)=true:=hh;refine⟨_,rfl, .inl ⟨rfl,_, .of sG⟩,w,us,rfl,rfl,sG,?_⟩;refine⟨_,rfl,q _ w us.reverse (s1.fD hw) hw ae ?_⟩;have e:eh f1 o p i i j=(A++[(i2,j2)]).reverse:=by
    rw[Mq,hU hh];simp
   rw[e,List.map_reverse];refine⟨by rw[List.length_reverse,List.length_reverse,P1.1],fun k g hg=>?_⟩;have hk:=(Xc hg).1;rw[List.length_reverse]at hk;have hl:=P1.1;rw[List.getElem?_reverse hk]at hg;obtain⟨t3,k1,k2⟩:=P1.2 _ _ hg;refine⟨t3,by rw[List.getElem?_reverse Xz,hl];exact k1,?_⟩;have f9:t3≠w:=fun z=>by subst z;rw[sG]at k2;cases k2
   rw[ai f9];exact k2
variable(Fc:GI K aB)
theorem oe:aJ ["self","worth","way","row","pairs"] ["self","worth","way","row","pairs"] (aq fO):=⟨rfl,rfl,rfl,by decide+kernel,rfl,by decide+kernel,by decide+kernel⟩
include T Fc in
theorem oh{f:Addr}{fd:FuncData}(F:iY K "__init__" "Finding.__init__" fO f fd):a8 P w K mg base (dq P w) true 1 f fd ["self","worth","way","row","pairs"] (tS aB):=by
 refine F.iW oe XA (fun cj A outer s H vs Q E hr h hX=>?_)
 ·obtain⟨x,dx,a,r,p,w,rfl,_⟩:=h;rfl
 ·obtain⟨x,dx,a,r,p,w,rfl,hx,q⟩:=h;refine⟨_,(Xk (Xr K (pv 0) (pv 1)) (Xk (Xr K (pv 0) (pv 2)) (Xk (Xr K (pv 0) (pv 3)) (Xl (Xr K (pv 0) (pv 4)))))),?_⟩;have a1:=aV "worth" (.int w) [];have a2:=aV "way" (.ref a) (bf "worth" (.int w) []);have a3:=aV "row" (.ref r) (bf "way" (.ref a) (bf "worth" (.int w) []));simp only[List.length_nil]at a1;refine⟨_,rfl,_,rfl,x,aB,dx,_,rfl,hx,Fc.cl,Fc.worth,XC,?_⟩;refine⟨_,rfl,_,rfl,x,aB,dx,_,rfl,ae,Fc.cl,Fc.way,XB,?_⟩;refine⟨_,rfl,_,rfl,x,aB,dx,_,rfl,ae,Fc.cl,Fc.row,XB,?_⟩;refine⟨_,rfl,_,rfl,x,aB,dx,_,rfl,ae,Fc.cl,Fc.pairs,XB,?_⟩;rw[gf,gf,gf,Jl];exact q
theorem Zq:aJ ["finding"] ["finding"] (aq oV):=⟨rfl,rfl,rfl,by decide+kernel,rfl,by decide+kernel,by decide+kernel⟩
include T Fc in
theorem Zl{f:Addr}{fd:FuncData}(F:lD K "order_of" "order_of" oV f fd):a8 P w K mg base (dq P w) true 1 f fd ["finding"] (tT aB):=by
 refine F.iW Zq XA (fun cj A outer s H vs Q E hr h hX=>?_)
 ·obtain⟨x,dx,a,r,p,w,us,ps,rfl,_⟩:=h;rfl
 ·obtain⟨x,dx,a,r,p,w,us,ps,rfl,hx,hp,PS,f9,q⟩:=h;refine⟨_,(Xl (@aM _ _ _ _ (@fB _ _ _ _ _ (W9 (@rL _ _ _ _ _ _ mK (Xd K (pv 0))) (W9 (Xb (ar K) (Xd K (pv 0)) aj) af))))),?_⟩;obtain⟨t,h1,h2⟩:=PS.first f9;refine⟨_,rfl,x,aB,dx,_,_,rfl,hx,Fc.cl,Fc.worth,jI w a r p,_,rfl,_,rfl,x,aB,dx,_,_,rfl,hx,Fc.cl,Fc.pairs,jJ w a r p,p,_,_,_,rfl,rfl, .of hp,h1,aC Xy,fun k hk=>?_⟩;exact q _ k t (au.upd hk) ae (au.upd hk _ _ h2)
variable(fK:ed P w K mg base true 4 az "way_to" ["self","pair"] (YJ az))
variable(lR:ot P w K mg base true 1 "Finding" aB ["self","worth","way","row","pairs"] [] (tS aB))
theorem fL:aJ ["trails","worth","pairs","ends","way","row"] ["trails","worth","pairs"] (aq eV):=⟨rfl,rfl,rfl,by decide+kernel,rfl,by decide+kernel,by decide+kernel⟩
include T Rc fK lR in
theorem sI{f:Addr}{fd:FuncData}(F:lD K "make_finding" "make_finding" eV f fd):a8 P w K mg base (dq P w) true 6 f fd ["trails","worth","pairs"] (YW az aB):=by
 refine F.iW fL XA (fun cj A outer s H vs Q E hr h hX=>?_)
 ·obtain⟨x,dx,e,b,es,bs,f,o,p,n,m,w,pr,us,ps,q0,rfl,_⟩:=h;rfl
 ·obtain⟨x,dx,e,b,es,bs,f1,o,p,n,m,w,pr,us,ps,q0,rfl,TR,Aq,PS,pC,h0,hn,BB,q⟩:=h;refine⟨_,(Xn (@pT _ _ _ _ _ _ _ _ _ _ _ _ _ _ _ (3) _ _ Xw fL.nd Xw (by exact rfl) (show bD ["trails","worth","pairs","ends","way","row"] (aq eV) _ ["pair"] [0,1] ["trails","worth"]from⟨rfl,by decide+kernel,by decide+kernel,by decide+kernel,rfl,rfl,by decide+kernel,by decide+kernel,by decide+kernel⟩) (@bE _ K _ _ _ (pv 2) (XD)) (fun _ _ _ _ _=>(Xa (0) (show(["pair","trails","worth"]:List Str).Nodup by decide+kernel) (Or.inl rfl))) (fun _ _ _ _ _=>(@ZE _ _ _ (@aU _ _ _ _ _ _ _ _ jA (Xb (ar K) (Xb (ar K) (Xd K (pv 1)) (Xb (du K) (pv 0) aj)) (Xb (du K) (pv 0) aj)) (pv 2) (aW _)))) (fun _ _ _ _ _=>(pv 0)) (XD) (by intro _;rfl)) (Xn (W_ (4) fL.nd (Xh (pv 0) fK (hr.mono (XC)) aR (W9 (Xb (ar K) (pv 3) aj) af))) (Xn (@pT _ _ _ _ _ _ _ _ _ _ _ _ _ _ _ (5) _ _ Xw fL.nd Xw (by exact rfl) (show bD ["trails","worth","pairs","ends","way","row"] (aq eV) _ ["i","j"] [0] ["trails"]from⟨rfl,by decide+kernel,by decide+kernel,by decide+kernel,rfl,rfl,by decide+kernel,by decide+kernel,by decide+kernel⟩) (@bE _ K _ _ _ (pv 4) (XD)) (fun _ _ _ _ _=>(@jf _ K _ _ _ (2) _ Xw (@br _ _ _ _ _ (Xa (0) (show(["i","j","trails"]:List Str).Nodup by decide+kernel) (Or.inl rfl)) (@br _ _ _ _ _ (Xa (1) (show(["i","j","trails"]:List Str).Nodup by decide+kernel) (Or.inl rfl)) jd (XD)) (XD)) (XD) (XD) (XD))) (fun _ _ _ _ _=>j8) (fun _ _ _ _ _=>(Xb (ar K) (Xb (ar K) (Xd K (pv 2)) (pv 0)) (pv 1))) (XD) (by intro _;rfl)) (Xl (@aM _ _ _ _ (@sQ _ _ _ _ _ _ _ _ _ _ _ _ _ _ lR (hr.mono (XC)) hX.pass (W9 (pv 1) (W9 (pv 4) (W9 (pv 5) (W9 (pv 2) af)))) (XD) (XC) (XD) (XD))))))),?_⟩;have Mr:us.length=ps.length:=by have:=PS.1;simpa using this
  refine⟨fun σ H1=>∃D vs,σ=[some (.ref x),some (.int w),some (.ref pr),some (.ref D),none,none]∧au H H1∧H1 D=some (.lst vs)∧iQ H1 vs ((ps.filter fun q=>decide (dj f1 o p q.1 q.2=some w)).map aK),?_,?_⟩
  ·refine⟨_,rfl,pr,rfl,⟨_, .of Aq⟩,fun D hD=>?_⟩;refine kZ (xs:=us) (fun k ys bF H'=>(∃u,bF=[u,some (.ref x),some (.int w)])∧iQ H ys (((ps.take k).filter fun q=>decide (dj f1 o p q.1 q.2=some w)).map aK)∧H' D=some (.lst ys)∧au H H'∧ys.length≤k) ⟨⟨_,rfl⟩, .nil,ae,au.upd hD,XE⟩ ?_ ?_ ?_
   ·rintro k ys bF H' _ ⟨_,_,_,s1,_⟩;exact .of (s1 _ _ Aq)
   ·rintro k v ys bF H' hv ⟨⟨u,rfl⟩,P1,sF,s1,mB⟩;have hk:k<ps.length:=by rw[←Mr];exact(Xc hv).1
    have ek:ps[k]?=some ps[k]:=by simp[hk]
    have hm:=pC ps[k] (List.getElem_mem hk);generalize ps[k]=g at ek hm;obtain⟨t,k1,k2⟩:=PS.2 k (aK g) (by rw[List.getElem?_map,ek];rfl);rw[hv]at k1;cases k1;have T1:=TR.keep s1;have kt:=s1 _ _ k2;obtain⟨rb,g1,g2,g3⟩:=T1.te.at hm.1;have et:ps.take (k+1)=ps.take k++[g]:=by rw[List.take_succ,ek];rfl
    refine⟨_,rfl,x,az,dx,_,_,rfl,T1.ob,Rc.cl,Rc.lG,iR o p e b,_,rfl,t,_,_,_,rfl,rfl, .of kt,ax (j:=0) rfl,e,_,_,_,rfl,rfl, .of T1.he,ax g2,_,rfl,t,_,_,_,rfl,rfl, .of kt,ax (j:=1) rfl,rb,_,_,_,rfl,rfl, .of g3,ax (cW hm.2),?_⟩;have GW:decide (bC (dj f1 o p g.1 g.2)=V.int w)=decide (dj f1 o p g.1 g.2=some w):=by cases dj f1 o p g.1 g.2<;>simp[bC]
    refine⟨_,rfl,by cases dj f1 o p g.1 g.2<;>rfl,_,rfl,?_⟩;rw[GW];refine ba (fun hh=>?_) (fun hh=>?_)
    ·refine⟨_,rfl,sF,a_ Xz,⟨_,rfl⟩,?_,ae,s1.fD hD,by simp;omega⟩;rw[et,List.filter_append,List.map_append];refine P1.append ?_;rw[show[g].filter (fun q=>decide (dj f1 o p q.1 q.2=some w))=[g] by rw[List.filter_cons,Xp hh];rfl];exact⟨rfl,fun k3 g3 NX=>by
      have Vj:k3=0:=by
       have:=(Xc NX).1;simp at this;omega
      subst Vj;have NX:aK g=g3:=by simpa using NX
      subst NX;exact⟨t,rfl,k2⟩⟩
    ·have hh:decide (dj f1 o p g.1 g.2=some w)=false:=by simpa using hh
     refine⟨⟨_,rfl⟩,?_,sF,s1,XB⟩;rw[et,List.filter_append,show[g].filter (fun q=>decide (dj f1 o p q.1 q.2=some w))=[] by rw[List.filter_cons,hh];rfl,List.append_nil];exact P1
   ·rintro ys bF H' ⟨_,P1,sF,s1,_⟩;rw[Mr,List.take_length]at P1;exact⟨D,ys,rfl,s1,sF,P1.same s1⟩
  rintro σ H1 ⟨D,vs,rfl,s1,sF,P1⟩;obtain⟨t0,k1,k2⟩:=P1.2 0 (aK q0) (by rw[List.getElem?_map,h0];rfl);have FG:q0.1<n∧q0.2<m:=pC q0 (List.mem_filter.mp (Xj h0)).1;refine⟨fun σ H2=>∃wy j4,σ=[some (.ref x),some (.int w),some (.ref pr),some (.ref D),some (.ref wy),none]∧au H1 H2∧H1 wy=none∧H2 wy=some (.lst j4)∧iQ H2 j4 ((eh f1 o p q0.1 q0.1 q0.2).map aK),?_,?_⟩
  ·have T1:=TR.keep s1;exact⟨_,rfl,x,dx,_,rfl,T1.ob,L4 o p e b,_,rfl,D,_,_,_,rfl,rfl, .of sF,ax (j:=0) k1,x,dx,e,b,es,bs,f1,o,p,n,m,t0,q0.1,q0.2,rfl,T1,k2,FG.1,FG.2,hn,fun H2 wy j4 s2 h2 h3 P2=>⟨wy,j4,rfl,s2,h2,h3,P2⟩⟩
  rintro σ H2 ⟨wy,j4,rfl,s2,Qp,BH,P2⟩;have Y0:=P2.1;rw[List.length_map]at Y0;have Lf:(eh f1 o p q0.1 q0.1 q0.2).length≤1001:=by
   have:=ZH (f:=f1) (o:=o) (p:=p) q0.1 q0.1 q0.2;omega
  have Ms:=Ae (f:=f1) (o:=o) (p:=p) q0.1 q0.1 q0.2 FG.1 FG.2;generalize eh f1 o p q0.1 q0.1 q0.2=W at P2 Y0 Lf Ms q;refine⟨fun σ H3=>∃r,σ=[some (.ref x),some (.int w),some (.ref pr),some (.ref D),some (.ref wy),some (.ref r)]∧au H2 H3∧H2 r=none∧H3 r=some (.lst (W.map fun q=>bC (dj f1 o p q.1 q.2))),?_,?_⟩
  ·refine⟨_,rfl,wy,rfl,⟨_, .of BH⟩,fun D2 m7=>?_⟩;refine kZ (xs:=j4) (fun k ys bF H'=>(∃u v,bF=[u,v,some (.ref x)])∧ys=(W.take k).map (fun q=>bC (dj f1 o p q.1 q.2))∧H' D2=some (.lst ys)∧au H2 H') ⟨⟨_,_,rfl⟩,rfl,ae,au.upd m7⟩ ?_ ?_ ?_
   ·rintro k ys bF H' _ ⟨_,_,_,s3⟩;exact .of (s3 _ _ BH)
   ·rintro k v ys bF H' hv ⟨⟨u,v2,rfl⟩,rfl,Bs,s3⟩;have hk:k<W.length:=by rw[←Y0];exact(Xc hv).1
    have ek:W[k]?=some W[k]:=by simp[hk]
    have hm:=Ms W[k] (List.getElem_mem hk);generalize W[k]=g at ek hm;obtain⟨t,k1,k2⟩:=P2.2 k (aK g) (by rw[List.getElem?_map,ek];rfl);rw[hv]at k1;cases k1;have T3:=TR.keep (s1.trans (s2.trans s3));have kt:=s3 _ _ k2;obtain⟨rb,g1,g2,g3⟩:=T3.te.at hm.1;refine⟨t,_,rfl, .of kt,rfl,_,_,rfl,_,_,rfl,rfl,?_⟩;refine vT ?_;refine⟨_,rfl,x,az,dx,_,_,rfl,T3.ob,Rc.cl,Rc.lG,iR o p e b,_,rfl,e,_,_,_,rfl,rfl, .of T3.he,ax g2,_,rfl,rb,_,_,_,rfl,rfl, .of g3,ax (cW hm.2),?_⟩;refine⟨Bs,a_ (by rw[List.length_map,List.length_take];omega),⟨_,_,rfl⟩,?_,ae,s3.fD m7⟩;rw[List.take_succ,ek];simp
   ·rintro ys bF H' ⟨_,rfl,Bs,s3⟩;rw[Y0,List.take_length]at Bs;exact⟨D2,rfl,s3,m7,Bs⟩
  rintro σ H3 ⟨r,rfl,s3,rZ,wH⟩;refine⟨_,rfl,_,rfl,_,rfl,_,rfl,fun y dy hy JB f9=>?_⟩;have s4:au H3 (upd (upd H3 dy (.own y)) y (.ins aB dy [])):=(au.upd JB).fD hy;refine⟨y,dy,wy,r,pr,w,rfl,ae,?_⟩;refine⟨rfl,?_⟩;rw[gf];have s5:au H3 (upd (upd H3 dy (.own y)) y (.ins aB dy (rR w wy r pr))):=(au.upd JB).fD hy;have sH:=s1.trans (s2.trans s3);exact q _ y dy wy r j4 (sH.trans s5) (sH.free hy) (sH.free JB) (s1.free Qp) ((s1.trans s2).free rZ) ae (by rw[ai f9];exact ae) (s5 _ _ (s3 _ _ BH)) (P2.same (s3.trans s5)) (s5 _ _ wH)
variable(Gc:L5 K aF)
theorem o7:aJ ["self"] ["self"] (aq gu):=⟨rfl,rfl,rfl,by decide+kernel,rfl,by decide+kernel,by decide+kernel⟩
include T Gc in
theorem o8{f:Addr}{fd:FuncData}(F:iY K "__init__" "Groups.__init__" gu f fd):a8 P w K mg base (dq P w) true 1 f fd ["self"] (tU aF):=by
 refine F.iW o7 XA (fun cj A outer s H vs Q E hr h hX=>?_)
 ·obtain⟨x,dx,rfl,_⟩:=h;rfl
 ·obtain⟨x,dx,rfl,hx,q⟩:=h;refine⟨_,(Xk (Xr K (pv 0) kX) (Xl (Xr K (pv 0) kX))),?_⟩;have a1:=aV "leads" (.ref 0) [];simp only[List.length_nil]at a1;refine fun dl NY=>?_
  have n1:x≠dl:=aA hx NY;refine⟨_,rfl,x,aF,dx,_,rfl,by rw[ai n1];exact hx,Gc.cl,Gc.p7,XC,?_⟩;refine fun dm GX=>?_
  have n2:x≠dm:=fun z=>by rw[z,ae]at GX;cases GX
  have FH:upd H dl (.dT []) dm=none:=by rw[ai (Ne.symm n2)]at GX;exact GX
  have n3:dm≠dl:=fun z=>by rw[z,ae]at FH;cases FH
  have Mt:H dm=none:=by rw[ai n3]at FH;exact FH
  refine⟨_,rfl,x,aF,dx,_,rfl,by rw[ai n2,ae],Gc.cl,Gc.members,by have:=aV "leads" (.ref dl) [];simp at this;omega,?_⟩;rw[L6];refine q _ (fun a=>a=dl∨a=dm) ?_ ?_ ?_
  ·exact fun b u hb e=>by
    rw[ai hb,ai (aA e Mt),ai hb,ai (aA e NY)];exact e
  ·rintro a (rfl|rfl)
   ·exact NY
   ·exact Mt
  ·refine⟨dx,dl,dm,[],[],fun _=>none,fun _=>none,ae,fun z=>z.elim n1 n2,⟨?_,?_, .inl rfl, .inr rfl,Ne.symm n3,fun p=>rfl,fun p=>rfl,fun p q a e=>(by cases e),fun kv h=>(by cases h), .nil,fun l ms e=>(by cases e),fun p l e=>(by cases e),fun l ms e=>(by cases e)⟩,fun a b=>⟨False.elim,fun⟨l,e,_⟩=>(by cases e)⟩,Nat.le_refl _,Nat.le_refl _⟩
   ·rw[ai (Ne.symm n1),ai (Ne.symm n3),ai (Ne.symm n1),ae]
   ·rw[ai (Ne.symm n2),ae]
theorem uC:aJ ["self","pair"] ["self","pair"] (aq ji):=⟨rfl,rfl,rfl,by decide+kernel,rfl,by decide+kernel,by decide+kernel⟩
include T Gc in
theorem uD{f:Addr}{fd:FuncData}(F:iY K "has" "Groups.has" ji f fd):a8 P w K mg base (dq P w) true 1 f fd ["self","pair"] (YU aF):=by
 refine F.iW uC XA (fun cj A outer s H vs Q E hr h hX=>?_)
 ·obtain⟨x,t,p,S,E1,B,rfl,_⟩:=h;rfl
 ·obtain⟨x,t,p,S,E1,B,rfl,G,ht,q⟩:=h;have hu:=hr.units;have hu:(A.deeper (PyProof.Rows.envOfC "Groups.has" (aq ji) s.heap.objs.size f cj)).units+1<cLine:=XB;refine⟨_,(Xl (@aM _ _ _ _ (@Y_ _ _ _ _ _ _ (@qN _ _ _ _ _ hu (pv 1) (Xd K (pv 0))) (by first|exact bq _ (XC) (XC)|rfl)))),?_⟩;obtain⟨dg,dl,dm,kl,km,ld,mm,hg,DS,D,hE,NZ,Ki⟩:=G;refine⟨_,rfl,_,rfl,x,aF,dg,_,_,rfl,hg,Gc.cl,Gc.p7,ka dl dm,dl,_,rfl, .t (k:=aZ p) D.hl ht,q _ ?_⟩;rw[hE];have:=D.lv p;cases e:ld p with
  |none=>
   rw[e]at this;have this:bo kl (aZ p)=none:=this;rw[this];simp
  |some l=>
   rw[e]at this;obtain⟨t2,h1,_⟩:=this;rw[h1];simp
theorem qe:aJ ["self","pair"] ["self","pair"] (aq ft):=⟨rfl,rfl,rfl,by decide+kernel,rfl,by decide+kernel,by decide+kernel⟩
include T Gc in
theorem qf{f:Addr}{fd:FuncData}(F:iY K "take_in" "Groups.take_in" ft f fd):a8 P w K mg base (dq P w) true 1 f fd ["self","pair"] (wt aF):=by
 refine F.iW qe XA (fun cj A outer s H vs Q E hr h hX=>?_)
 ·obtain⟨x,t,p,S,E1,B,rfl,_⟩:=h;rfl
 ·obtain⟨x,t,p,S,E1,B,rfl,G,ht,hB,q⟩:=h;have hu:=hr.units;have hu:(A.deeper (PyProof.Rows.envOfC "Groups.take_in" (aq ft) s.heap.objs.size f cj)).units+1<cLine:=XB;refine⟨_,(Xl (Xq (Xi (@uZ _ _ _ _ _ hu (pv 1) (Xd K (pv 0)))) (Xk (@lB _ _ _ _ _ _ _ _ _ hu (Xd K (pv 0)) (pv 1) (pv 1) (by exact rfl)) (Xl (@lB _ _ _ _ _ _ _ _ _ hu (Xd K (pv 0)) (pv 1) (@bR _ _ _ _ (W9 (pv 1) af)) (by exact rfl)))) aS)),?_⟩;obtain⟨dg,dl,dm,kl,km,ld,mm,hg,DS,D,hE,NZ,Ki⟩:=id G;refine⟨_,rfl,_,rfl,x,aF,dg,_,_,rfl,hg,Gc.cl,Gc.p7,ka dl dm,dl,_,rfl, .t (k:=aZ p) D.hl ht,_,rfl,?_⟩;have lv:=D.lv p;cases e:ld p with
  |some l=>
   rw[e]at lv;obtain⟨t2,h1,_⟩:=lv;rw[h1];refine jD ?_;refine q H S (.same (.refl H)) (G.iff (fun a b=>?_) (XB));unfold GJ;refine⟨fun z=>z.elim id ?_, .inl⟩;rintro⟨rfl,rfl⟩;rw[hE];exact⟨l,e,e⟩
  |none=>
   rw[e]at lv;have lv:bo kl (aZ p)=none:=lv;rw[lv];refine mL ?_;have nx:x≠dl:=fun z=>DS (z▸D.sl)
   have N0:x≠dm:=fun z=>DS (z▸D.sm)
   have Qq:t≠dl:=fun z=>by rw[z,D.hl]at ht;cases ht
   have WQ:t≠dm:=fun z=>by rw[z,D.hm]at ht;cases ht
   refine⟨_,rfl,_,rfl,x,aF,dg,_,_,rfl,hg,Gc.cl,Gc.p7,ka dl dm,_,rfl,dl,_,rfl, .t (k:=aZ p) D.hl ht (a_ Xz),?_⟩;refine⟨_,rfl,aC Xy,fun a ha=>?_⟩;have na:a≠dl:=fun z=>by rw[z,ae]at ha;cases ha
   have BG:H a=none:=by rw[ai na]at ha;exact ha
   have Mj:x≠a:=aA hg BG;have R7:dm≠a:=aA D.hm BG;have Vk:t≠a:=aA ht BG;refine⟨_,rfl,x,aF,dg,_,_,rfl,by rw[ai Mj,ai nx];exact hg,Gc.cl,Gc.members,jw dl dm,_,rfl,dm,_,rfl, .t (k:=aZ p) (by rw[ai R7,ai (Ne.symm D.ne)];exact D.hm) (by rw[ai Vk,ai Qq];exact ht) (a_ Xz),?_⟩;refine q _ (fun y=>S y∨y=a) ⟨fun y hy=>hy.imp id (fun z=>by rw[z];exact BG),fun b o hb eb=>?_⟩ ?_
   ·rw[ai (fun z:b=dm=>hb (by rw[z];exact D.sm)),ai (aA eb BG),ai (fun z:b=dl=>hb (by rw[z];exact D.sl))];exact eb
   refine⟨dg,dl,dm,_,_,_,_,by rw[ai N0,ai Mj,ai nx];exact hg,fun z=>z.elim DS Mj,D.take (t:=t) (a:=a) e ht BG ?_ ae ?_ ?_,fun a1 b1=>?_,?_,?_⟩
   ·rw[ai D.ne,ai (Ne.symm na),ae]
   ·rw[ai (Ne.symm R7),ae]
   ·intro b o h1 h2 eb;rw[ai h2,ai (aA eb BG),ai h1];exact eb
   ·unfold GJ;rw[hE];constructor
    ·rintro(⟨l,h1,h2⟩|⟨z1,z2⟩)
     ·exact⟨l,by rw[Xm (fun z=>by rw[z,e]at h1;cases h1)];exact h1,by rw[Xm (fun z=>by rw[z,e]at h2;cases h2)];exact h2⟩
     ·exact⟨p,by rw[Xp z1],by rw[Xp z2]⟩
    ·rintro⟨l,h1,h2⟩;by_cases z1:a1=p
     ·by_cases z2:b1=p
      ·exact .inr ⟨z1,z2⟩
      ·rw[Xp z1]at h1;rw[Xm z2]at h2;cases h1;obtain⟨ms,BD⟩:=D.ml _ _ h2;have:=D.self _ _ BD;rw[e]at this;cases this
     ·rw[Xm z1]at h1;by_cases z2:b1=p
      ·rw[Xp z2]at h2;cases h2;obtain⟨ms,BD⟩:=D.ml _ _ h1;have:=D.self _ _ BD;rw[e]at this;cases this
      ·rw[Xm z2]at h2;exact .inl ⟨l,h1,h2⟩
   ·exact Nat.le_trans (eO _ _ _) (XB)
   ·exact Nat.le_trans (eO _ _ _) (XB)
theorem cn:aJ ["self","pair","other","lead","gone","moved","member"] ["self","pair","other"] (aq eW):=⟨rfl,rfl,rfl,by decide+kernel,rfl,by decide+kernel,by decide+kernel⟩
include T Gc in
theorem sJ{f:Addr}{fd:FuncData}(F:iY K "unite" "Groups.unite" eW f fd):a8 P w K mg base (dq P w) true 1 f fd ["self","pair","other"] (tV aF):=by
 refine F.iW cn XA (fun cj A outer s H vs Q E hr h hX=>?_)
 ·obtain⟨x,t,u,p,q,S,E1,B,rfl,_⟩:=h;rfl
 ·obtain⟨x,t,u,p,q,S,E1,B,rfl,G,ht,NN,hp,hq,hB,qq⟩:=h;have hu:=hr.units;have Mu:(A.deeper (PyProof.Rows.envOfC "Groups.unite" (aq eW) s.heap.objs.size f cj)).units<cLine:=XB;have hu:(A.deeper (PyProof.Rows.envOfC "Groups.unite" (aq eW) s.heap.objs.size f cj)).units+1<cLine:=XB;refine⟨_,(Xn (W_ (3) cn.nd (@je _ _ _ _ _ _ hu (Xd K (pv 0)) (pv 1) (fun _ _=>rfl))) (Xn (W_ (4) cn.nd (@je _ _ _ _ _ _ hu (Xd K (pv 0)) (pv 2) (fun _ _=>rfl))) (Xl (Xq (@aU _ _ _ _ _ _ _ _ (Bh K Mu) (pv 3) (pv 4) (aW _)) (Xn (Xq (@aU _ _ _ _ _ _ _ _ rM (Xe (aP K) (by exact rfl) T.fz PyProof.Rows.Boot.«len» (W9 (@je _ _ _ _ _ _ hu (Xd K (pv 0)) (pv 3) (fun _ _=>rfl)) af)) (Xe (aP K) (by exact rfl) T.fz PyProof.Rows.Boot.«len» (W9 (@je _ _ _ _ _ _ hu (Xd K (pv 0)) (pv 4) (fun _ _=>rfl)) af)) (aW _)) (Xn (W_ (3) cn.nd (@je _ _ _ _ _ _ hu (Xd K (pv 0)) (pv 2) (fun _ _=>rfl))) (Xl (W_ (4) cn.nd (@je _ _ _ _ _ _ hu (Xd K (pv 0)) (pv 1) (fun _ _=>rfl))))) aS) (Xn (W_ (5) cn.nd (@CS _ _ _ _ _ _ _ hu (Xd K (pv 0)) (pv 4) ⟨rfl,rfl,rfl,rfl⟩)) (Xn (@b_ _ _ _ _ _ _ _ _ hX.own Xw (@bE _ K _ _ _ (pv 5) (XD)) (Xa (6) cn.nd (Or.inl rfl)) (Xl (@lB _ _ _ _ _ _ _ _ _ hu (Xd K (pv 0)) (pv 6) (pv 3) (by exact rfl))) (by intro _;rfl)) (Xl (@aY _ _ _ _ (Xg K PySem.F.plainAttrs_list PySem.F.slot_list_extend PySem.F.type_list_extend u0 (@je _ _ _ _ _ _ hu (Xd K (pv 0)) (pv 3) (fun _ _=>rfl)) (W9 (pv 5) af)) (XD)))))) aS)))),?_⟩;obtain⟨dg,dl,dm,kl,km,ld,mm,hg,DS,D,hE,NZ,Ki⟩:=id G;obtain⟨l,GY,_⟩:=(hE p p).mp hp;obtain⟨g,GZ,_⟩:=(hE q q).mp hq;obtain⟨tl,vl,X'⟩:∃tl,bo kl (aZ p)=some (.ref tl)∧H tl=some (.tup (j6 l)):=by have:=D.lv p;rw[GY]at this;exact this
  obtain⟨tg,vg,Kj⟩:∃tg,bo kl (aZ q)=some (.ref tg)∧H tg=some (.tup (j6 g)):=by have:=D.lv q;rw[GZ]at this;exact this
  refine⟨fun σ H1=>H1=H∧σ=[some (.ref x),some (.ref t),some (.ref u),some (.ref tl),none,none,none],⟨_,rfl,x,aF,dg,_,_,rfl,hg,Gc.cl,Gc.p7,ka dl dm,_,rfl,dl,_,rfl,by have:=kW.t (k:=aZ p) D.hl ht;rw[vl]at this;exact this,rfl,rfl⟩,?_⟩;rintro σ H1 ⟨rfl,rfl⟩;refine⟨fun σ H2=>H2=H1∧σ=[some (.ref x),some (.ref t),some (.ref u),some (.ref tl),some (.ref tg),none,none],⟨_,rfl,x,aF,dg,_,_,rfl,hg,Gc.cl,Gc.p7,ka dl dm,_,rfl,dl,_,rfl,by have:=kW.t (k:=aZ q) D.hl NN;rw[vg]at this;exact this,rfl,rfl⟩,?_⟩;rintro σ H2 ⟨rfl,rfl⟩;refine⟨_,rfl,_,rfl,tl,tg,_,_,rfl,rfl, .of X', .of Kj,rfl,rfl,_,rfl,?_⟩;rw[Yw];by_cases Ai:l=g
  ·rw[decide_eq_true Ai];refine jD ?_;refine qq _ (.same (.refl _)) (G.iff (fun a b=>?_) (Nat.le_refl _));subst Ai;unfold rg;rw[hE,hE,hE,hE,hE,GY,GZ];constructor
   ·rintro(z|⟨z1,z2⟩)
    ·exact z
    ·have y1:ld a=some l:=by rcases z1 with⟨y,h1,h2⟩|⟨y,h1,h2⟩<;>(cases h2;exact h1)
     have y2:ld b=some l:=by rcases z2 with⟨y,h1,h2⟩|⟨y,h1,h2⟩<;>(cases h2;exact h1)
     exact⟨l,y1,y2⟩
   ·exact .inl
  rw[decide_eq_false Ai];refine mL ?_;obtain⟨m1,As⟩:=D.ml p l GY;obtain⟨m2,Ec⟩:=D.ml q g GZ;obtain⟨al,rT,Mv,Aj,P1,_⟩:∃a us,bo km (aZ l)=some (.ref a)∧H2 a=some (.lst us)∧iQ H2 us m1∧S a:=by have:=D.mv l;rw[As]at this;exact this
  obtain⟨ag,j4,N1,FI,P2,_⟩:∃a us,bo km (aZ g)=some (.ref a)∧H2 a=some (.lst us)∧iQ H2 us m2∧S a:=by have:=D.mv g;rw[Ec]at this;exact this
  have gl:∀{tt:Addr}{r:Pr},H2 tt=some (.tup (j6 r))→kW H2 dm (.ref tt) (bo km (aZ r)):=fun h=>kW.t (k:=aZ _) D.hm h
  have R8:∀{tt:Addr}{r:Pr},H2 tt=some (.tup (j6 r))→kW H2 dl (.ref tt) (bo kl (aZ r)):=fun h=>kW.t (k:=aZ _) D.hl h
  refine⟨fun σ H3=>H3=H2∧∃l g tl tg p' q',σ=[some (.ref x),some (.ref t),some (.ref u),some (.ref tl),some (.ref tg),none,none]∧l≠g∧H2 tl=some (.tup (j6 l))∧H2 tg=some (.tup (j6 g))∧ld p'=some l∧ld q'=some g∧∀a b,rg E1 p q a b↔rg E1 p' q' a b,?_,?_⟩
  ·refine⟨_,rfl,x,aF,dg,_,_,rfl,hg,Gc.cl,Gc.members,jw dl dm,_,rfl,dm,_,rfl,by have:=gl X';rw[Mv]at this;exact this,al,_,rfl, .inl (.of Aj),?_⟩;refine⟨_,rfl,x,aF,dg,_,_,rfl,hg,Gc.cl,Gc.members,jw dl dm,_,rfl,dm,_,rfl,by have:=gl Kj;rw[N1]at this;exact this,ag,_,rfl, .inl (.of FI),?_⟩;refine⟨_,_,rfl,rfl,_,rfl,?_⟩;refine ba (fun _=>?_) (fun _=>?_)
   ·refine⟨fun σ H3=>H3=H2∧σ=[some (.ref x),some (.ref t),some (.ref u),some (.ref tg),some (.ref tg),none,none],⟨_,rfl,x,aF,dg,_,_,rfl,hg,Gc.cl,Gc.p7,ka dl dm,_,rfl,dl,_,rfl,by have:=R8 NN;rw[vg]at this;exact this,rfl,rfl⟩,?_⟩;rintro σ H3 ⟨rfl,rfl⟩;refine⟨_,rfl,x,aF,dg,_,_,rfl,hg,Gc.cl,Gc.p7,ka dl dm,_,rfl,dl,_,rfl,by have:=R8 ht;rw[vl]at this;exact this,rfl,g,l,tg,tl,q,p,rfl,Ne.symm Ai,Kj,X',GZ,GY,fun a b=>Bi⟩
   ·exact⟨rfl,l,g,tl,tg,p,q,rfl,Ai,X',Kj,GY,GZ,fun a b=>Iff.rfl⟩
  rintro σ H3 ⟨rfl,l,g,tl,tg,p',q',rfl,Ai,X',Kj,GY,GZ,Vl⟩;obtain⟨m1,As⟩:=D.ml p' l GY;obtain⟨m2,Ec⟩:=D.ml q' g GZ;obtain⟨al,rT,Mv,Aj,P1,R9⟩:∃a us,bo km (aZ l)=some (.ref a)∧H3 a=some (.lst us)∧iQ H3 us m1∧S a:=by have:=D.mv l;rw[As]at this;exact this
  obtain⟨ag,j4,N1,FI,P2,WR⟩:∃a us,bo km (aZ g)=some (.ref a)∧H3 a=some (.lst us)∧iQ H3 us m2∧S a:=by have:=D.mv g;rw[Ec]at this;exact this
  have WS:al≠ag:=fun z=>Ai (D.inj l g al Mv (by rw[N1,z]))
  have l1:=D.wR (D.ms l m1 As).1 (fun r hr=>⟨l,((D.ms l m1 As).2 r).mp hr⟩);have l2:=D.wR (D.ms g m2 Ec).1 (fun r hr=>⟨g,((D.ms g m2 Ec).2 r).mp hr⟩);have nx:x≠dl:=fun z=>DS (by rw[z];exact D.sl)
  have N0:x≠dm:=fun z=>DS (by rw[z];exact D.sm)
  have Mw:al≠dl:=fun z=>by rw[z,D.hl]at Aj;cases Aj
  have Mx:al≠dm:=fun z=>by rw[z,D.hm]at Aj;cases Aj
  have My:ag≠dl:=fun z=>by rw[z,D.hl]at FI;cases FI
  have JC:ag≠dm:=fun z=>by rw[z,D.hm]at FI;cases FI
  have Y0:=P2.1;refine⟨fun σ H4=>H4=upd H3 dm (.dT (jB km (aZ g)))∧σ=[some (.ref x),some (.ref t),some (.ref u),some (.ref tl),some (.ref tg),some (.ref ag),none],?_,?_⟩
  ·exact⟨_,rfl,x,aF,dg,_,_,rfl,hg,Gc.cl,Gc.members,jw dl dm,dm,rfl, .inr ⟨km, .of D.hm⟩,_,rfl,dm,tg,km,aZ g,_,rfl,rfl,D.hm,Kj,N1,rfl,rfl⟩
  rintro σ H4 ⟨rfl,rfl⟩;refine⟨fun σ H5=>(∃w,σ=[some (.ref x),some (.ref t),some (.ref u),some (.ref tl),some (.ref tg),some (.ref ag),w])∧∃uw,H5 dl=some (.dT uw)∧uw.length≤B∧(∀r,bo uw (aZ r)=if r∈m2 then some (.ref tl)else bo kl (aZ r))∧SameBut dl (upd H3 dm (.dT (jB km (aZ g)))) H5,?_,?_⟩
  ·refine⟨_,rfl,ag,rfl,⟨_, .of (by rw[ai JC];exact FI)⟩,?_⟩;refine cD (xs:=j4) (fun i σ H5=>(∃w,σ=[some (.ref x),some (.ref t),some (.ref u),some (.ref tl),some (.ref tg),some (.ref ag),w])∧∃uw,H5 dl=some (.dT uw)∧uw.length≤B∧(∀r,bo uw (aZ r)=if r∈m2.take i then some (.ref tl)else bo kl (aZ r))∧SameBut dl (upd H3 dm (.dT (jB km (aZ g)))) H5) ?_ ?_ ?_ ?_
   ·exact⟨⟨_,rfl⟩,kl,by rw[ai D.ne];exact D.hl,NZ,fun r=>XE, .refl⟩
   ·rintro i σ H5 _ ⟨_,uw,_,_,_,s5⟩;exact .of (s5 _ _ My (by rw[ai JC];exact FI))
   ·rintro i v σ H5 hv ⟨⟨w,rfl⟩,uw,h5,Kk,JD,s5⟩;have hi:i<m2.length:=by rw[←Y0];exact(Xc hv).1
    have ei:m2[i]?=some m2[i]:=by simp[hi]
    have jH:m2[i]∈m2:=List.getElem_mem hi;generalize m2[i]=r0 at ei jH;obtain⟨tr,k1,k2⟩:=P2.2 i r0 ei;rw[hv]at k1;cases k1;have R3:tr≠dl:=fun z=>by rw[z,D.hl]at k2;cases k2
    have Qr:tr≠dm:=fun z=>by rw[z,D.hm]at k2;cases k2
    have k5:=s5 tr _ R3 (by rw[ai Qr];exact k2);have g5:=s5 x _ nx (by rw[ai N0];exact hg);refine⟨_,rfl,_,rfl,x,aF,dg,_,_,rfl,g5,Gc.cl,Gc.p7,ka dl dm,_,rfl,dl,_,rfl, .t (k:=aZ r0) h5 k5 (a_ Xz),⟨_,rfl⟩,_,ae,?_,fun r=>?_,s5.upd⟩
    ·have pC:bo uw (aZ r0)≠none:=by
      rw[JD];split
      ·simp
      ·have:=D.lv r0;rw[((D.ms g m2 Ec).2 r0).mp jH]at this;obtain⟨t0,z,_⟩:=this;rw[z];simp
     have:(putK uw (aZ r0) (.ref tl)).length=uw.length:=by
      unfold putK;rw[iO,Xp (by cases z:bo uw (aZ r0)<;>simp_all),List.length_map]
     omega
    ·rw[jC,JD];have et:m2.take (i+1)=m2.take i++[r0]:=by rw[List.take_succ,ei];rfl
     rw[et];by_cases e:r=r0
     ·rw[Xp (by rw[e]),Xp (by simp[e])]
     ·rw[Xm (fun z=>e (cX z))];by_cases e2:r∈m2.take i
      ·rw[Xp e2,Xp (by simp[e2])]
      ·rw[Xm e2,Xm (by simp[e,e2])]
   ·rintro σ H5 ⟨⟨w,rfl⟩,uw,h5,Kk,JD,s5⟩;rw[Y0,List.take_length]at JD;exact⟨⟨_,rfl⟩,uw,h5,Kk,JD,s5⟩
  rintro σ H5 ⟨⟨w,rfl⟩,uw,h5,Kk,JD,s5⟩;have Qq:tl≠dl:=fun z=>by rw[z,D.hl]at X';cases X'
  have Qs:tl≠dm:=fun z=>by rw[z,D.hm]at X';cases X'
  have g5:=s5 x _ nx (by rw[ai N0];exact hg);have m5:=s5 dm _ (Ne.symm D.ne) ae;have R_:=s5 al _ Mw (by rw[ai Mx];exact Aj);have Vm:=s5 ag _ My (by rw[ai JC];exact FI);have Vn:=s5 tl _ Qq (by rw[ai Qs];exact X');have vd:bo (jB km (aZ g)) (aZ l)=some (.ref al):=by rw[nP,Xm (fun z=>Ai (cX z))];exact Mv
  refine⟨_,rfl,x,aF,dg,_,_,rfl,g5,Gc.cl,Gc.members,jw dl dm,_,rfl,dm, .ref al,rfl,by have:=kW.t (k:=aZ l) m5 Vn;rw[vd]at this;exact this, .inl ⟨rfl,_, .of R_⟩,_,rfl,al,ag,rT,j4,rfl,rfl,R_,Vm,?_,?_⟩
  ·have:=P1.1;exact aC Xz
  have Vo:x≠al:=fun z=>DS (by rw[z];exact R9)
  have G0:∀b o,¬S b→H3 b=some o→upd H5 al (.lst (rT++j4)) b=some o:=fun b o hb eb=>by
   rw[ai (fun z=>hb (by rw[z];exact R9))];exact s5 b o (fun z=>hb (by rw[z];exact D.sl)) (by rw[ai (fun z=>hb (by rw[z];exact D.sm))];exact eb)
  refine qq _ ⟨fun _ h=> .inl h,G0⟩ ?_;refine⟨dg,dl,dm,uw,jB km (aZ g),_,_,G0 x _ DS hg,DS,D.L9 (tl:=tl) Ai As Ec Mv P1 P2 Aj X' JD (by rw[ai (Ne.symm Mw)];exact h5) (by rw[ai (Ne.symm Mx)];exact m5) ae ?_,fun a b=>(Vl a b).trans (Jo Ai GY GZ (D.ms g m2 Ec).2 hE a b),Kk,Nat.le_trans (Ys _ _) Ki⟩;intro b o h1 h2 h3 eb;rw[ai h3];exact s5 b o h1 (by rw[ai h2];exact eb)
variable(jO:mg "sorted"=none)
theorem ub:aJ ["self"] ["self"] (aq iG):=⟨rfl,rfl,rfl,by decide+kernel,rfl,by decide+kernel,by decide+kernel⟩
include T Gc jO in
theorem uc{f:Addr}{fd:FuncData}(F:iY K "told" "Groups.told" iG f fd):a8 P w K mg base (dq P w) true 1 f fd ["self"] (wu aF):=by
 refine F.iW ub XA (fun cj A outer s H vs Q E hr h hX=>?_)
 ·obtain⟨x,S,E1,B,rfl,_⟩:=h;rfl
 ·obtain⟨x,S,E1,B,rfl,G,hB,q⟩:=h;refine⟨_,(Xl (@aM _ _ _ _ (@pS _ _ _ _ _ _ _ _ _ _ _ _ _ _ Xw (show bD ["self"] (aq iG) _ ["members"] [] []from⟨rfl,by decide+kernel,by decide+kernel,by decide+kernel,rfl,rfl,by decide+kernel,by decide+kernel,by decide+kernel⟩) (@E6 _ H _ _ _ _ _ (Xd K (pv 0)) (XD) (XD) (XD)) (fun _ _ _ _ _=>(Xa (0) (show(["members"]:List Str).Nodup by decide+kernel) (Or.inl rfl))) (fun _ _ _ _ _=>j8) (fun _ _ _ _ _=>(Xe (Zk K) (by exact rfl) jO PyProof.Rows.Boot.«sorted» (W9 (pv 0) af))) (by intro _;rfl)))),?_⟩;obtain⟨dg,dl,dm,kl,km,ld,mm,hg,DS,D,hE,NZ,Ki⟩:=G;refine⟨_,rfl,x,aF,dg,_,_,rfl,hg,Gc.cl,Gc.members,jw dl dm,dm,km,rfl,D.hm,fun o nf R hR=>?_⟩;have nR:R≠dm:=fun z=>by rw[z,ae]at hR;cases hR
  have Qt:H R=none:=by rw[ai nR]at hR;exact hR
  refine Bf (fun k ys bF H'=>(∃u,bF=[u])∧(∃gs,gj H' ys gs∧gs.length=k∧∀(i:Nat) ps,gs[i]?=some ps→∃l ms v,km[i]?=some (aZ l,v)∧mm l=some ms∧ps.Perm ms∧ps.Pairwise fun p q=>iE p q=true)∧H' R=some (.lst ys)∧(∀b o,b≠dm→H b=some o→H' b=some o)∧H' dm=some (.sN o (.dT km))∧∀(i:Nat) a,ys[i]?=some (.ref a)→H a=none∧a≠R) ⟨⟨_,rfl⟩,⟨[], .nil,rfl,fun i ps e=>by simp at e⟩,ae,fun b o hb e=>by rw[ai (aA e Qt),ai hb];exact e,by rw[ai (Ne.symm nR),ae],fun i a e=>by simp at e⟩ ?_ ?_ ?_
  ·rintro k ys bF H' _ ⟨_,_,_,_,h4,_⟩;exact h4
  ·rintro k ⟨key,v⟩ ys bF H' hk ⟨⟨u,rfl⟩,⟨gs,W1,hl,Kl⟩,Mz,Km,GX,AQ⟩;obtain⟨l,el⟩:=D.key _ (Xj hk);have el:key=aZ l:=el;subst el;have vv:=Ah D.Ag hk;have mv:=D.mv l;cases e:mm l with
   |none=>
    rw[e]at mv;have mv:bo km (aZ l)=none:=mv;rw[mv]at vv;cases vv
   |some ms=>
    rw[e]at mv;obtain⟨a,us,z1,z2,z3,z4⟩:=mv;rw[vv]at z1;cases z1;obtain⟨nd,BD⟩:=D.ms l ms e;have Qu:a≠dm:=fun z=>by rw[z,D.hm]at z2;cases z2
    have T:d6 H H':=fun b v hb=>Km b _ (fun z=>by rw[z,D.hm]at hb;cases hb) hb
    refine tI ?_;refine⟨_,rfl,a,us,ms,rfl, .of (Km _ _ Qu z2),z3.cq T,nd,by have:=D.wR nd (fun p hp=>⟨l,(BD p).mp hp⟩);omega,fun D2 R' qs m7 P2 perm pw=>?_⟩;have N2:D2≠R:=fun z=>by rw[z,Mz]at m7;cases m7
    have Se:D2≠dm:=fun z=>by rw[z,GX]at m7;cases m7
    have MA:H D2=none:=by
     cases z:H D2 with
     |none=>rfl
     |some o2=>rw[Km D2 o2 Se z]at m7;cases m7
    have Sg:=W1.1;have Qb:k<km.length:=(Xc hk).1;refine⟨by rw[ai (Ne.symm N2)];exact Mz,a_ Xz,⟨_,rfl⟩,⟨gs++[qs],?_,by simp;omega,fun i ps hi=>?_⟩,ae,fun b o hb eb=>?_,?_,fun i a ha=>?_⟩
    ·have W2:gj (upd H' D2 (.lst R')) ys gs:=W1.same (au.upd m7);have W3:gj (upd H' D2 (.lst R')) (ys++[.ref D2]) (gs++[qs]):=W2.append (.one ae (P2.same (au.upd m7)));refine W3.put (fun i e=>?_) (by rw[ai (Ne.symm N2)];exact Mz);by_cases hi:i<ys.length
     ·rw[List.getElem?_append_left hi]at e;exact(AQ i R e).2 rfl
     ·have:=(Xc e).1;have:i=ys.length:=by simp at this;omega
      subst this;simp at e;exact N2 e
    ·by_cases D7:i<gs.length
     ·rw[List.getElem?_append_left D7]at hi;exact Kl i ps hi
     ·have:=(Xc hi).1;have:i=gs.length:=by simp at this;omega
      subst this;simp at hi;subst hi;exact⟨l,ms,_,by rw[hl];exact hk,e,perm,pw⟩
    ·rw[ai (aA eb Qt),ai (aA eb MA)];exact Km b o hb eb
    ·rw[ai (Ne.symm nR),ai (Ne.symm Se)];exact GX
    ·by_cases hi:i<ys.length
     ·rw[List.getElem?_append_left hi]at ha;exact AQ i a ha
     ·have:=(Xc ha).1;have:i=ys.length:=by simp at this;omega
      subst this;simp at ha;subst ha;exact⟨MA,N2⟩
  ·rintro ys bF H' ⟨_,⟨gs,W1,hl,Kl⟩,Mz,Km,GX,AQ⟩;refine q _ R ys gs ⟨fun a h=> .inl h,fun b o hb eb=>Km b o (fun z=>hb (by rw[z];exact D.sm)) eb⟩ Qt Mz W1 (fun k a h=>(AQ k a h).1) ?_;have at_:∀ps∈gs,∃l ms,mm l=some ms∧ps.Perm ms∧ps.Pairwise (fun p q=>iE p q=true):=fun ps BB=>by
    obtain⟨i,hi⟩:=List.getElem?_of_mem BB;obtain⟨l,ms,v,_,h2,h3,h4⟩:=Kl i ps hi;exact⟨l,ms,h2,h3,h4⟩
   refine⟨fun ps BB=>?_,fun ps BB=>?_,fun ps BB a ha b=>?_,fun a ha=>?_,?_⟩
   ·obtain⟨_,_,_,_,h4⟩:=at_ ps BB
    exact h4
   ·obtain⟨l,ms,h2,h3,_⟩:=at_ ps BB
    intro z;subst z;have:l∈ms:=((D.ms l ms h2).2 l).mpr (D.self l ms h2);have:=h3.mem_iff.mpr this;cases this
   ·obtain⟨l,ms,h2,h3,_⟩:=at_ ps BB
    have ha:=((D.ms l ms h2).2 a).mp (h3.mem_iff.mp ha);rw[h3.mem_iff,(D.ms l ms h2).2,hE,ha];exact⟨fun z=>⟨l,rfl,z⟩,fun⟨y,h,z⟩=>by cases h;exact z⟩
   ·obtain⟨l,h1,_⟩:=(hE a a).mp ha;obtain⟨ms,BD⟩:=D.ml a l h1;have mv:=D.mv l;rw[BD]at mv;obtain⟨aa,us,z1,_⟩:=mv;obtain⟨i,hi⟩:=Yb z1;have iM:i<gs.length:=by rw[hl];exact(Xc hi).1
    obtain⟨l2,Vp,v,h5,h6,h7,_⟩:=Kl i gs[i] (by simp[iM]);rw[hi]at h5;have:l=l2:=cX (Prod.mk.inj (Xs h5)).1;subst this;refine⟨gs[i],List.getElem_mem iM,h7.mem_iff.mpr ?_⟩;exact((D.ms l Vp h6).2 a).mpr h1
   ·rw[List.pairwise_iff_getElem];intro i j hi hj uk a ha hb;obtain⟨l1,m1,v1,a1,a2,a3,_⟩:=Kl i gs[i] (by simp[hi]);obtain⟨l2,m2,v2,b1,b2,b3,_⟩:=Kl j gs[j] (by simp[hj]);have ha:=((D.ms l1 m1 a2).2 a).mp (a3.mem_iff.mp ha);have hb:=((D.ms l2 m2 b2).2 a).mp (b3.mem_iff.mp hb);rw[ha]at hb;cases hb;have nd:=D.Ag;have h1:(km.map (·.1))[i]?=some (aZ l1):=by rw[List.getElem?_map,a1];rfl
    have h2:(km.map (·.1))[j]?=some (aZ l1):=by rw[List.getElem?_map,b1];rfl
    have:=(List.getElem?_inj (Xc h1).1 nd).mp (h1.trans h2.symm);omega
variable(nY:ot P w K mg base true 1 "Groups" aF ["self"] [] (tU aF))
variable(Hc:GN K ay)
theorem mF:aJ ["self","trails","worth"] ["self","trails","worth"] (aq eX):=⟨rfl,rfl,rfl,by decide+kernel,rfl,by decide+kernel,by decide+kernel⟩
include T nY Hc in
theorem mG{f:Addr}{fd:FuncData}(F:iY K "__init__" "Gathering.__init__" eX f fd):a8 P w K mg base (dq P w) true 3 f fd ["self","trails","worth"] (rh ay aF):=by
 refine F.iW mF XA (fun cj A outer s H vs Q E hr h hX=>?_)
 ·obtain⟨x,dx,tr,W,rfl,_⟩:=h;rfl
 ·obtain⟨x,dx,tr,W,rfl,hx,q⟩:=h;refine⟨_,(Xk (Xr K (pv 0) (pv 1)) (Xk (Xr K (pv 0) (pv 2)) (Xk (Xr K (pv 0) (@Dt _ _ _ _ _ _ _ _ _ _ _ nY (hr.mono (XC)) hX.pass (XD) (XC))) (Xl (Xr K (pv 0) kX))))),?_⟩;refine⟨_,rfl,_,rfl,x,ay,dx,_,rfl,hx,Hc.cl,Hc.tX,XC,?_⟩;refine⟨_,rfl,_,rfl,x,ay,dx,_,rfl,ae,Hc.cl,Hc.worth,by have:=aV "trails" (.ref tr) [];simp at this;omega,?_⟩;rw[gf];refine fun g dg hg N3 f9=>?_
  have MB:x≠g:=fun z=>by rw[←z,ae]at hg;cases hg
  have Qv:x≠dg:=fun z=>by rw[←z,ae]at N3;cases N3
  have MD:H g=none:=by rw[ai (Ne.symm MB)]at hg;exact hg
  have ME:H dg=none:=by rw[ai (Ne.symm Qv)]at N3;exact N3
  refine⟨g,dg,rfl,ae,fun H1 S1 wY Qw G1=>⟨rfl,?_⟩⟩;have keep:∀b o,b≠x→H b=some o→H1 b=some o:=fun b o hb e=>wY b o (aA e MD) (by rw[ai (aA e MD),ai (aA e ME),ai hb];exact e)
  have n8:H1 x=some (.ins ay dx (bf "worth" (.int W) (bf "trails" (.ref tr) []))):=wY x _ MB (by rw[ai MB,ai Qv];exact ae);have l2:(bf "worth" (.int W) (bf "trails" (.ref tr) [])).length≤2:=by
   have:=aV "trails" (.ref tr) [];have:=aV "worth" (.int W) (bf "trails" (.ref tr) []);simp at*;omega
  refine⟨_,rfl,x,ay,dx,_,rfl,n8,Hc.cl,Hc.groups,XB,?_⟩;refine fun dk N4=>?_
  have Kn:x≠dk:=fun z=>by rw[←z,ae]at N4;cases N4
  have DT:H1 dk=none:=by rw[ai (Ne.symm Kn)]at N4;exact N4
  have Qx:H dk=none:=by
   cases e:H dk with
   |none=>rfl
   |some o=>rw[keep dk o (Ne.symm Kn) e]at DT;cases DT
  refine⟨_,rfl,x,ay,dx,_,rfl,by rw[ai Kn];exact ae,Hc.cl,Hc.marks,by have:=aV "groups" (.ref g) (bf "worth" (.int W) (bf "trails" (.ref tr) []));omega,?_⟩;rw[Js];have N5:¬S1 x:=fun z=>by
   have:=Qw x z;rw[ai MB,ai Qv,ae]at this;cases this
  have Vq:¬S1 g:=fun z=>by
   have:=Qw g z;rw[ae]at this;cases this
  have G2:=G1.nt;have fin:∀b o,b≠x→H1 b=some o→upd (upd (upd H1 x (.ins ay dx (bf "groups" (.ref g) (bf "worth" (.int W) (bf "trails" (.ref tr) []))))) dk (.dT [])) x (.ins ay dx (kD tr W g dk)) b=some o:=fun b o hb e=>by
   rw[ai hb,ai (aA e DT),ai hb];exact e
  have Qy:¬(S1 dk∧NT H1 dk):=fun z=>by
   obtain⟨o,e,_⟩:=z.2;rw[DT]at e;cases e
  refine q _ (fun a=>(S1 a∧NT H1 a)∨a=dk) (fun b o hb e=>fin b o hb (keep b o hb e)) (fun a ha=>?_) ⟨dx,g,dk,[],fun a=>S1 a∧NT H1 a,ae,G2.keep (fun a o hs e=>fin a o (fun z=>N5 (by rw[←z];exact hs.1)) e) (fun b v hb=>fin b _ (fun z=>by rw[z,n8]at hb;cases hb) hb) (fun o e=>fin g o (Ne.symm MB) e),by rw[ai (Ne.symm Kn),ae],fun c=>rfl,Nat.le_refl _,fun a=>Iff.rfl,Qy,fun z=>z.elim (fun y=>N5 y.1) Kn,fun z=>z.elim (fun y=>Vq y.1) (fun y=>?_),fun a ha=>?_⟩
  ·rcases ha with ha|ha
   ·have:=Qw a ha.1;cases e:H a with
    |none=>rfl
    |some o=>rw[ai (aA e MD),ai (aA e ME),ai (fun z=>N5 (by rw[←z];exact ha.1)),e]at this;cases this
   ·rw[ha];exact Qx
  ·obtain⟨WT,dl,dm,kl,Fp,ld,mm,og,_⟩:=G1;rw[y,DT]at og;cases og
  ·rcases ha with⟨h1,o,h2,h3⟩|ha
   ·exact⟨o,fin a o (fun z=>N5 (by rw[←z];exact h1)) h2,h3⟩
   ·exact⟨_,by rw[ha,ai (Ne.symm Kn),ae],fun v=>(XE)⟩
variable(cG:ed P w K mg base true 1 aF "unite" ["self","pair","other"] (tV aF))
theorem qg:aJ ["self","crossing","pair"] ["self","crossing","pair"] (aq fu):=⟨rfl,rfl,rfl,by decide+kernel,rfl,by decide+kernel,by decide+kernel⟩
include T Hc cG in
theorem qh{f:Addr}{fd:FuncData}(F:iY K "mark" "Gathering.mark" fu f fd):a8 P w K mg base (dq P w) true 2 f fd ["self","crossing","pair"] (tY ay aF):=by
 refine F.iW qg XA (fun cj A outer s H vs Q E hr h hX=>?_)
 ·obtain⟨x,tc,tp,tr,W,c,r,S,s1,B,M,rfl,_⟩:=h;rfl
 ·obtain⟨x,tc,tp,tr,W,c,r,S,s1,B,M,rfl,G,hc,hp,Jp,h0,hB,hM,q⟩:=h;have hu:=hr.units;have hu:(A.deeper (PyProof.Rows.envOfC "Gathering.mark" (aq fu) s.heap.objs.size f cj)).units+1<cLine:=XB;refine⟨_,(Xl (Xq (Xi (@qN _ _ _ _ _ hu (pv 1) (Xd K (pv 0)))) (Xl (@aY _ _ _ _ (Xh (Xd K (pv 0)) cG (hr.mono (XC)) aR (W9 (@je _ _ _ _ _ _ hu (Xd K (pv 0)) (pv 1) (fun _ _=>rfl)) (W9 (pv 2) af))) (XD))) (Xl (@lB _ _ _ _ _ _ _ _ _ hu (Xd K (pv 0)) (pv 1) (pv 2) (by exact rfl))))),?_⟩;obtain⟨dx,g,dk,km,S1,D⟩:=id G;refine⟨_,rfl,_,rfl,x,ay,dx,_,_,rfl,D.ob,Hc.cl,Hc.marks,mT tr W g dk,dk,_,rfl, .t (k:=aZ c) D.hk hc,_,rfl,?_⟩;have mv:=D.mv c;cases e:s1.2 c with
  |none=>
   rw[e]at mv;have mv:bo km (aZ c)=none:=mv;rw[mv];refine jD ?_;have hl:=D.len;refine⟨_,rfl,_,rfl,x,ay,dx,_,_,rfl,D.ob,Hc.cl,Hc.marks,mT tr W g dk,_,rfl,dk,_,rfl, .t (k:=aZ c) D.hk hc (a_ Xz),?_⟩;obtain⟨u,D'⟩:=D.put (c:=c) hp;refine q _ S u ⟨dx,g,dk,putK km (aZ c) (.ref tp),S1,?_⟩;unfold X1;rw[e];exact D'
  |some r0=>
   rw[e]at mv;obtain⟨t0,v0,Vr⟩:=mv;rw[v0];refine mL ?_;obtain⟨dg,dl,dm,kl,Fp,ld,mm,og,_⟩:=id D.gr;refine⟨_,rfl,x,ay,dx,_,_,rfl,D.ob,Hc.cl,Hc.groups,jx tr W g dk,g,dg,_,rfl,og,Af dl dm,_,rfl,x,ay,dx,_,_,rfl,D.ob,Hc.cl,Hc.marks,mT tr W g dk,_,rfl,dk,_,rfl,by have:=kW.t (k:=aZ c) D.hk hc;rw[v0]at this;exact this,_,rfl,g,t0,tp,r0,r,S1,s1.1,B,rfl,D.gr,Vr,hp,h0 r0 e,Jp,hB,fun H' u G'=>?_⟩;obtain⟨S',S2,u2,D2⟩:=D.NO u G';refine q _ S' u2 ⟨dx,g,dk,km,S2,?_⟩;unfold X1;rw[e];exact⟨D2.ob,D2.gr,D2.hk,D2.mv,by have:=D2.len;omega,D2.sS,D2.Ag,D2.nx,D2.ng,D2.nt⟩
variable(bU:ed P w K mg base true 1 aF "take_in" ["self","pair"] (wt aF))
variable(bV:ed P w K mg base true 2 ay "mark" ["self","crossing","pair"] (tY ay aF))
theorem e6:aJ ["self","crossing","pair","later","before"] ["self","crossing","pair"] (aq dw):=⟨rfl,rfl,rfl,by decide+kernel,rfl,by decide+kernel,by decide+kernel⟩
include T a9 aX Hc cG bU bV in
theorem m8{f:Addr}{fd:FuncData}(F:iY K "go_over" "Gathering.go_over" dw f fd):a8 P w K mg base (dq P w) true 3 f fd ["self","crossing","pair"] (tZ ay aF az):=by
 refine F.iW e6 XA (fun cj A outer s H vs Q E hr h hX=>?_)
 ·obtain⟨x,tc,tp,tr,dt,e,b,es,bs,f,o,p,n,m,W,i,j,r,S,s1,B,M,H0,rfl,_⟩:=h;rfl
 ·obtain⟨x,tc,tp,tr,dt,e,b,es,bs,f1,o,p,n,m,W,i,j,r,S,s1,B,M,H0,rfl,G,TR,BA,hc,hp,hi,hj,TP,OK,hs,hB,hM,q⟩:=h;have hu:=hr.units;have hu:(A.deeper (PyProof.Rows.envOfC "Gathering.go_over" (aq dw) s.heap.objs.size f cj)).units+1<cLine:=XB;refine⟨_,(Xn (W_ (3) e6.nd (@je _ _ _ _ _ _ hu (Xd K (pv 0)) (pv 1) (fun _ _=>rfl))) (Xn (Xq (@eM _ _ _ (Xh (Xd K (pv 0)) a9 (hr.mono (XC)) aR (W9 (pv 1) (W9 (pv 2) af))) (by intro _;rfl)) (Xn (@aY _ _ _ _ (Xh (Xd K (pv 0)) bU (hr.mono (XC)) aR (W9 (pv 2) af)) (XD)) (Xl (@aY _ _ _ _ (Xh (Xd K (pv 0)) cG (hr.mono (XC)) aR (W9 (pv 2) (W9 (pv 3) af))) (XD)))) aS) (Xl (@b_ _ _ _ _ _ _ _ _ hX.own Xw (@bE _ K _ _ _ (Xh (Xd K (pv 0)) aX (hr.mono (XC)) aR (W9 (pv 1) af)) (XD)) (Xa (4) e6.nd (Or.inl rfl)) (Xl (@aY _ _ _ _ (Xh (pv 0) bV (hr.mono (XC)) aR (W9 (pv 4) (W9 (pv 3) af))) (XD))) (by intro _;rfl))))),?_⟩;obtain⟨dx,g,dk,km,S1,D⟩:=id G;obtain⟨tl,vl,X'⟩:∃tl,bo km (aZ (aK (i+1,j+1)))=some (.ref tl)∧H tl=some (.tup (j6 r)):=by have:=D.mv (aK (i+1,j+1));rw[hs]at this;exact this
  obtain⟨Kd,i2,j2,e2,OV⟩:=OK.mr _ _ hs;obtain⟨rfl,rfl⟩:=jh e2;refine⟨fun σ H1=>H1=H∧σ=[some (.ref x),some (.ref tc),some (.ref tp),some (.ref tl),none],⟨_,rfl,x,ay,dx,_,_,rfl,D.ob,Hc.cl,Hc.marks,mT tr W g dk,_,rfl,dk,_,rfl,by have:=kW.t (k:=aZ (aK (i+1,j+1))) D.hk hc;rw[vl]at this;exact this,rfl,rfl⟩,?_⟩;rintro σ H1 ⟨rfl,rfl⟩;have T1:=TR.keep BA.same;refine⟨fun σ H2=>σ=[some (.ref x),some (.ref tc),some (.ref tp),some (.ref tl),none]∧∃S',p6 S H1 S' H2∧iT H2 ay aF x tr W S' (GK f1 o p i j s1 r) (B+1) M,?_,?_⟩
  ·refine⟨_,rfl,x,ay,dx,_,_,rfl,D.ob,Hc.cl,Hc.tX,nU tr W g dk,tr,dt,_,rfl,T1.ob,GH o p e b,_,rfl,_,rfl,tr,dt,e,b,es,bs,f1,o,p,n,m,tc,tp,i+1,j+1,i,j,rfl,T1,hc,hp,XB,XB,hi,hj,_,rfl,?_⟩;unfold GK;refine ba (fun hh=>?_) (fun hh=>?_)
   ·have hh:=of_decide_eq_true hh;rw[Xp hh];refine⟨fun σ H2=>σ=[some (.ref x),some (.ref tc),some (.ref tp),some (.ref tl),none]∧∃S',p6 S H1 S' H2∧iT H2 ay aF x tr W S' (GJ s1.1 (aK (i,j)),s1.2) (B+1) M,?_,?_⟩
    ·obtain⟨dg,dl,dm,kl,Fp,ld,mm,og,_⟩:=id D.gr;refine⟨_,rfl,x,ay,dx,_,_,rfl,D.ob,Hc.cl,Hc.groups,jx tr W g dk,g,dg,_,rfl,og,Dv dl dm,_,rfl,g,tp,aK (i,j),S1,s1.1,B,rfl,D.gr,hp,XB,fun H' Ju u G'=>?_⟩;obtain⟨S',S2,u2,D2⟩:=D.NO u G';exact⟨rfl,S',u2,dx,g,dk,km,S2,D2⟩
    rintro σ H2 ⟨rfl,S',u2,G2⟩;obtain⟨N6,g2,N7,Fp,S2,D2⟩:=id G2;have T:=u2.cq G.nt;obtain⟨dg,dl,dm,kl,WU,ld,mm,og,_⟩:=id D2.gr;refine⟨_,rfl,x,ay,N6,_,_,rfl,D2.ob,Hc.cl,Hc.groups,jx tr W g2 N7,g2,dg,_,rfl,og,Af dl dm,_,rfl,_,rfl,g2,tp,tl,aK (i,j),r,S2,_,B+1,rfl,D2.gr,T _ _ hp,T _ _ X', .inr ⟨rfl,rfl⟩, .inl Kd,XB,fun H' u G'=>?_⟩;obtain⟨NK,S3,u3,D3⟩:=D2.NO u G';exact⟨rfl,NK,u2.trans u3,N6,g2,N7,Fp,S3,D3⟩
   ·have hh:¬dj f1 o p i j=Bq f1 o p (i+1) (j+1):=fun z=>hh (decide_eq_true z)
    rw[Xm hh];exact⟨rfl,S, .same (.refl _),G.cast rfl (XB) (Nat.le_refl _)⟩
  rintro σ H2 ⟨rfl,S2,u2,G2⟩;obtain⟨Vs,Sh,_⟩:=DC TP OK Kd OV;have Au:=BA.ups u2;have T2:=TR.keep Au.same;have TT:=u2.cq G.nt;obtain⟨N6,g2,N7,Fp,S3,D2⟩:=id G2;refine⟨_,rfl,x,ay,N6,_,_,rfl,D2.ob,Hc.cl,Hc.tX,nU tr W g2 N7,tr,dt,_,rfl,T2.ob,Ad o p e b,_,rfl,tr,dt,e,b,es,bs,f1,o,p,n,m,tc,i,j,rfl,T2,TT _ _ hc,hi,hj,fun H3 rr us s3 rZ wH P3=>?_⟩;refine⟨rr,rfl,⟨_, .of wH⟩,?_⟩;have hlen:(bg f1 o p i j).length≤2:=by
   unfold bg;rw[List.length_append];split<;>split<;>simp
  have Vt:=rW TP OV;refine cD (xs:=us) (fun k σ H4=>(∃w,σ=[some (.ref x),some (.ref tc),some (.ref tp),some (.ref tl),w])∧∃S4,p6 S H1 S4 H4∧iT H4 ay aF x tr W S4 (((bg f1 o p i j).take k).foldl (fun s c=>X1 s c r) (GK f1 o p i j s1 r)) (B+1) (M+k)∧H4 rr=some (.lst us)∧iQ H4 us (bg f1 o p i j)∧¬S4 rr∧H4 tl=some (.tup (j6 r))) ?_ ?_ ?_ ?_
  ·have G3:=G2.same s3;refine⟨⟨_,rfl⟩,S2,u2.trans (.same s3),G3.cast Xy (Nat.le_refl _) (Nat.le_refl _),wH,P3,G2.out rZ,s3 _ _ (TT _ _ X')⟩
  ·rintro k σ H4 _ ⟨_,S4,_,_,h4,_⟩;exact .of h4
  ·rintro k v σ H4 hv ⟨⟨w,rfl⟩,S4,u4,G4,h4,P4,n4,t4⟩;have hk:k<(bg f1 o p i j).length:=by rw[←P4.1];exact(Xc hv).1
   have ek:(bg f1 o p i j)[k]?=some (bg f1 o p i j)[k]:=by simp[hk]
   have jH:(bg f1 o p i j)[k]∈bg f1 o p i j:=List.getElem_mem hk;generalize (bg f1 o p i j)[k]=c at ek jH;obtain⟨t,k1,k2⟩:=P4.2 k c ek;rw[hv]at k1;cases k1;obtain⟨Vu,Vv,_⟩:=tW TP ((bg f1 o p i j).take k) _ Vs (Sh.e _ _ Kd) (fun c hc=>Vt c (List.mem_of_mem_take hc));obtain⟨Vw,g4,Vx,WV,S5,D4⟩:=id G4;refine⟨_,rfl,x,Vw,_,rfl,D4.ob,Ak tr W g4 Vx,_,rfl,_,rfl,x,t,tl,tr,W,c,r,S4,_,B+1,M+k,rfl,G4,k2,t4,Vv.e _ _ (Sh.e _ _ Kd),fun r0 h=>(Vu.mr _ _ h).1,XB,XB,fun H5 S6 u5 G5=>?_⟩;have T5:=u5.cq G4.nt;refine⟨⟨_,rfl⟩,S6,u4.trans u5,G5.cast ?_ (Nat.le_refl _) (XB),u5.keep rr _ n4 h4,P4.cq T5,u5.out n4 h4,T5 _ _ t4⟩;rw[List.take_succ,ek];simp
  ·rintro σ H4 ⟨⟨w,rfl⟩,S4,u4,G4,h4,P4,n4,t4⟩;refine q _ S4 u4 (G4.cast ?_ (Nat.le_refl _) (by have:=P4.1;omega));rw[P4.1,List.take_length];rfl
variable(jl:ed P w K mg base true 1 aF "has" ["self","pair"] (YU aF))
variable(dz:ed P w K mg base true 3 ay "go_over" ["self","crossing","pair"] (tZ ay aF az))
theorem fQ:aJ ["self","i","j","pair","behind"] ["self","i","j"] (aq eF):=⟨rfl,rfl,rfl,by decide+kernel,rfl,by decide+kernel,by decide+kernel⟩
include T Rc bT Hc bU bV jl dz in
theorem o_{f:Addr}{fd:FuncData}(F:iY K "visit" "Gathering.visit" eF f fd):a8 P w K mg base (dq P w) true 4 f fd ["self","i","j"] (rj ay aF az):=by
 refine F.iW fQ XA (fun cj A outer s H vs Q E hr h hX=>?_)
 ·obtain⟨x,tr,dt,e,b,es,bs,f,o,p,n,m,W,i,j,S,s1,B,M,H0,rfl,_⟩:=h;rfl
 ·obtain⟨x,tr,dt,e,b,es,bs,f1,o,p,n,m,W,i,j,S,s1,B,M,H0,rfl,G,TR,BA,hi,hj,hn,hm,TP,OK,hB,hM,q⟩:=h;have hu:=hr.units;have hu:(A.deeper (PyProof.Rows.envOfC "Gathering.visit" (aq eF) s.heap.objs.size f cj)).units+1<cLine:=XB;refine⟨_,(Xn (W_ (3) fQ.nd (@fB _ _ _ _ _ (W9 (pv 1) (W9 (pv 2) af)))) (Xn (W_ (4) fQ.nd (@fB _ _ _ _ _ (W9 (Xf bA (pv 1) aj) (W9 (Xf bA (pv 2) aj) af)))) (Xn (Xq (@aU _ _ _ _ _ _ _ _ jA (Xb (ar K) (Xb (ar K) (Xd K (Xd K (pv 0))) (pv 1)) (pv 2)) (Xd K (pv 0)) (aW _)) (Xl (@aY _ _ _ _ (Xh (Xd K (pv 0)) bU (hr.mono (XC)) aR (W9 (pv 3) af)) (XD))) aS) (Xn (Xq (Xi (@qN _ _ _ _ _ hu (pv 4) (Xd K (pv 0)))) (Xl (@aY _ _ _ _ (Xh (pv 0) dz (hr.mono (XC)) aR (W9 (pv 4) (W9 (pv 3) af))) (XD))) aS) (Xl (Xq (@PW.pt _ _ _ (@pw_and _ _ _ _ _ _ _ (@eM _ _ _ (Xh (Xd K (pv 0)) jl (hr.mono (XC)) aR (W9 (pv 3) af)) (by intro _;rfl)) (@pw_and1 _ _ _ _ (@eM _ _ _ (Xh (Xd K (pv 0)) bT (hr.mono (XC)) aR (W9 (pv 3) af)) (by intro _;rfl))))) (Xl (@aY _ _ _ _ (Xh (pv 0) bV (hr.mono (XC)) aR (W9 (pv 3) (W9 (pv 3) af))) (XD))) aS)))))),?_⟩;refine⟨fun σ H1=>∃t,σ=[some (.ref x),some (.int i),some (.int j),some (.ref t),none]∧au H H1∧H1 t=some (.tup (j6 (aK (i,j)))),⟨_,rfl,_,rfl,aC Xy,fun t ht=>⟨t,rfl,au.upd ht,ae⟩⟩,?_⟩;rintro σ H1 ⟨t,rfl,s2,ht⟩;refine⟨fun σ H2=>∃u,σ=[some (.ref x),some (.int i),some (.int j),some (.ref t),some (.ref u)]∧au H1 H2∧H2 u=some (.tup (j6 (aK (i+1,j+1)))),⟨_,rfl,_,_,rfl,rfl,_,rfl,_,_,rfl,rfl,aC Xy,fun u hu=>⟨u,rfl,au.upd hu,ae⟩⟩,?_⟩;rintro σ H2 ⟨u,rfl,s3,NJ⟩;have wX:=s3 _ _ ht;have JE:=s2.trans s3;have G2:=G.same JE;have Au:=BA.more JE;have T2:=TR.keep Au.same;obtain⟨rb,g1,g2,g3⟩:=T2.te.at hi;refine⟨fun σ H3=>σ=[some (.ref x),some (.int i),some (.int j),some (.ref t),some (.ref u)]∧∃S',p6 S H2 S' H3∧iT H3 ay aF x tr W S' (Fn f1 o p W i j s1) (B+1) M,?_,?_⟩
  ·obtain⟨dx,g,dk,km,S1,D⟩:=id G2;refine⟨_,rfl,x,ay,dx,_,_,rfl,D.ob,Hc.cl,Hc.tX,nU tr W g dk,tr,az,dt,_,_,rfl,T2.ob,Rc.cl,Rc.lG,iR o p e b,_,rfl,e,_,_,_,rfl,rfl, .of T2.he,ax g2,_,rfl,rb,_,_,_,rfl,rfl, .of g3,ax (cW hj),_,rfl,x,ay,dx,_,_,rfl,D.ob,Hc.cl,Hc.worth,DG tr W g dk,?_⟩;have GW:decide (bC (dj f1 o p i j)=V.int W)=decide (dj f1 o p i j=some W):=by cases dj f1 o p i j<;>simp[bC]
   refine⟨by cases dj f1 o p i j<;>rfl,_,rfl,?_⟩;rw[GW];unfold Fn;refine ba (fun hh=>?_) (fun hh=>?_)
   ·have hh:=of_decide_eq_true hh;rw[Xp hh];obtain⟨dg,dl,dm,kl,Fp,ld,mm,og,_⟩:=id D.gr;refine⟨_,rfl,x,ay,dx,_,_,rfl,D.ob,Hc.cl,Hc.groups,jx tr W g dk,g,dg,_,rfl,og,Dv dl dm,_,rfl,g,t,aK (i,j),S1,s1.1,B,rfl,D.gr,wX,XB,fun H' Ju u G'=>?_⟩;obtain⟨S',S2,u2,D2⟩:=D.NO u G';exact⟨rfl,S',u2,dx,g,dk,km,S2,D2⟩
   ·have hh:¬dj f1 o p i j=some W:=fun z=>hh (decide_eq_true z)
    rw[Xm hh];exact⟨rfl,S, .same (.refl _),G2.cast rfl (XB) (Nat.le_refl _)⟩
  rintro σ H3 ⟨rfl,S3,u3,G3⟩;have N8:=u3.cq G2.nt;have FJ:=Au.ups u3;obtain⟨Vy,GW1,_⟩:=DD OK i j;refine⟨fun σ H4=>σ=[some (.ref x),some (.int i),some (.int j),some (.ref t),some (.ref u)]∧∃S',p6 S3 H3 S' H4∧iT H4 ay aF x tr W S' (BE f1 o p W i j s1) (B+2) (M+2),?_,?_⟩
  ·obtain⟨dx,g,dk,km,S1,D⟩:=id G3;refine⟨_,rfl,_,rfl,x,ay,dx,_,_,rfl,D.ob,Hc.cl,Hc.marks,mT tr W g dk,dk,_,rfl, .t (k:=aZ (aK (i+1,j+1))) D.hk (N8 _ _ NJ),_,rfl,?_⟩;have mv:=D.mv (aK (i+1,j+1));have ee:(Fn f1 o p W i j s1).2=s1.2:=rfl;rw[ee]at mv;unfold BE;cases e9:s1.2 (aK (i+1,j+1))with
   |none=>
    rw[e9]at mv;have mv:bo km (aZ (aK (i+1,j+1)))=none:=mv;rw[mv];refine jD ?_;exact⟨rfl,S3, .same (.refl _),G3.cast rfl (XB) (XB)⟩
   |some r=>
    rw[e9]at mv;obtain⟨tl,vl,X'⟩:=mv;rw[vl];refine mL ?_;exact⟨_,rfl,x,dx,_,rfl,D.ob,Fo tr W g dk,_,rfl,_,rfl,x,u,t,tr,dt,e,b,es,bs,f1,o,p,n,m,W,i,j,r,S3,_,B+1,M,H0,rfl,G3,TR,FJ,N8 _ _ NJ,N8 _ _ wX,hi,hj,TP,Vy,e9,XB,XB,fun H' S' u G'=>⟨rfl,S',u,G'⟩⟩
  rintro σ H4 ⟨rfl,S4,u4,G4⟩;have Vz:=u4.cq G3.nt;have VA:=FJ.ups u4;have T4:=TR.keep VA.same;have N9:=Vz _ _ (N8 _ _ wX);obtain⟨VB,GW2,_⟩:=DE TP OK i j;have uu:p6 S H S4 H4:=(p6.same JE).trans (u3.trans u4);obtain⟨dx,g,dk,km,S1,D⟩:=id G4;obtain⟨dg,dl,dm,kl,Fp,ld,mm,og,_⟩:=id D.gr;refine⟨_,rfl,x,ay,dx,_,_,rfl,D.ob,Hc.cl,Hc.groups,jx tr W g dk,g,dg,_,rfl,og,L7 dl dm,_,rfl,g,t,aK (i,j),S1,_,B+2,rfl,D.gr,N9,fun b1 kF=>?_⟩;refine⟨_,rfl,?_⟩;refine ba (fun hh=>?_) (fun hh=>?_)
  ·refine⟨_,rfl,x,ay,dx,_,_,rfl,D.ob,Hc.cl,Hc.tX,nU tr W g dk,tr,dt,_,rfl,T4.ob,Du o p e b,_,rfl,tr,dt,e,b,es,bs,f1,o,p,n,m,t,i,j,rfl,T4,N9,XB,XB,_,rfl,?_⟩;refine ba (fun h2=>?_) (fun h2=>?_)
   ·have pC:=kF.mp hh;refine⟨_,rfl,x,dx,_,rfl,D.ob,Ak tr W g dk,_,rfl,_,rfl,x,t,t,tr,W,aK (i,j),aK (i,j),S4,_,B+2,M+2,rfl,G4,N9,N9,pC,fun r0 h=>(VB.mr _ _ h).1,XB,XB,fun H5 S5 u5 G5=>?_⟩;refine q _ S5 (uu.trans u5) ?_;unfold X2;rw[Xp ⟨pC,h2⟩];exact G5
   ·refine q _ S4 uu (G4.cast ?_ Xz (XB));unfold X2;rw[Xm (fun z=>h2 z.2)]
  ·refine jD ?_;refine q _ S4 uu (G4.cast ?_ Xz (XB));unfold X2;rw[Xm (fun z=>hh (kF.mpr z.1))]
variable(jm:ot P w K mg base true 3 "Gathering" ay ["self","trails","worth"] [] (rh ay aF))
variable(eJ:ed P w K mg base true 4 ay "visit" ["self","i","j"] (rj ay aF az))
variable(iI:ed P w K mg base true 1 aF "told" ["self"] (wu aF))
theorem gy:aJ ["trails","worth","gathering","i","j"] ["trails","worth"] (aq kE):=⟨rfl,rfl,rfl,by decide+kernel,rfl,by decide+kernel,by decide+kernel⟩
include T Rc Hc jm eJ iI in
theorem ud{f:Addr}{fd:FuncData}(F:lD K "best_groups" "best_groups" kE f fd):a8 P w K mg base (dq P w) true 5 f fd ["trails","worth"] (YY az):=by
 refine F.iW gy XA (fun cj A outer s H vs Q E hr h hX=>?_)
 ·obtain⟨tr,dt,e,b,es,bs,f,o,p,n,m,W,rfl,_⟩:=h;rfl
 ·obtain⟨tr,dt,e,b,es,bs,f1,o,p,n,m,W,rfl,TR,IT,Si,hn,hm,TP,q⟩:=h;refine⟨_,(Xn (W_ (2) gy.nd (@sQ _ _ _ _ _ _ _ _ _ _ _ _ _ _ jm (hr.mono (XC)) hX.pass (W9 (pv 0) (W9 (pv 1) af)) (XD) (XC) (XD) (XD))) (Xn (@b_ _ _ _ _ _ _ _ _ hX.own Xw (@vm _ _ _ _ _ _ _ _ Xw T.iD (W9 (Xf dM (Xe (aP K) (by exact rfl) T.fz PyProof.Rows.Boot.«len» (W9 (Xd K (pv 0)) af)) aj) (W9 (@rL _ _ _ _ _ _ mK aj) (W9 (@rL _ _ _ _ _ _ mK aj) af))) (XD) (XD)) (Xa (3) gy.nd (Or.inl rfl)) (Xl (@b_ _ _ _ _ _ _ _ _ hX.own Xw (@vm _ _ _ _ _ _ _ _ Xw T.iD (W9 (Xf dM (Xe (aP K) (by exact rfl) T.fz PyProof.Rows.Boot.«len» (W9 (Xb (ar K) (Xd K (pv 0)) (pv 3)) af)) aj) (W9 (@rL _ _ _ _ _ _ mK aj) (W9 (@rL _ _ _ _ _ _ mK aj) af))) (XD) (XD)) (Xa (4) gy.nd (Or.inl rfl)) (Xl (@aY _ _ _ _ (Xh (pv 2) eJ (hr.mono (XC)) aR (W9 (pv 3) (W9 (pv 4) af))) (XD))) (by intro _;rfl))) (by intro _;rfl)) (Xl (@aM _ _ _ _ (@AW _ _ _ _ _ _ _ _ _ _ _ _ _ (Xd K (pv 2)) iI (hr.mono (XC)) aR (XD)))))),?_⟩;refine⟨fun σ H1=>∃gx S,σ=[some (.ref tr),some (.int W),some (.ref gx),none,none]∧Base H H1 S∧iT H1 ay aF gx tr W S (fun _ _=>False,fun _=>none) 0 0,?_,?_⟩
  ·refine⟨_,rfl,_,rfl,fun y dy hy JB f9=>⟨y,dy,tr,W,rfl,ae,fun H' S sb fr G=>⟨rfl,y,S,rfl,⟨SameBut.YX hy JB sb,fun a ha=>?_⟩,G⟩⟩⟩;have:=fr a ha;cases e9:H a with
   |none=>rfl
   |some o9=>rw[ai (aA e9 hy),ai (aA e9 JB),e9]at this;cases this
  rintro σ H1 ⟨gx,S,rfl,BA,G⟩;have FC:es.length=n:=TR.te.1;have V0:=Vd.start f1 o p W n m;refine⟨fun σ H2=>(∃u v,σ=[some (.ref tr),some (.int W),some (.ref gx),u,v])∧∃S s B M,Base H H2 S∧iT H2 ay aF gx tr W S s B M∧Vd f1 o p W (Vb n m 0 0) s∧B≤6000,?_,?_⟩
  ·have T1:=TR.keep BA.same;refine⟨_,rfl,tr,az,dt,_,_,rfl,T1.ob,Rc.cl,Rc.lG,iR o p e b,e,_,rfl, .inl (.of T1.he),_,_,rfl,rfl,_,rfl,_,rfl,_,_,rfl,⟨by rw[List.length_map,FC];lia,by rw[List.length_map,FC];lia,XC,XC⟩,?_⟩;have en:((((es.map V.ref).length:Nat):Int)-1- -1).toNat=n:=by rw[List.length_map,FC];lia
   rw[en];refine Yy (fun k σ H2=>(∃u v,σ=[some (.ref tr),some (.int W),some (.ref gx),u,v])∧∃S s B M,Base H H2 S∧iT H2 ay aF gx tr W S s B M∧Vd f1 o p W (Vb n m (n-k) 0) s∧B≤2*(k*m)∧M≤3*(k*m)) ⟨⟨_,_,rfl⟩,S,_,0,0,BA,G,V0,by lia,by lia⟩ ?_ ?_
   ·rintro k σ H2 hk ⟨⟨u,v,rfl⟩,S2,s2,B,M,Au,G2,V2,hB,hM⟩;have ei:(((es.map V.ref).length:Nat):Int)-1-(k:Int)=((n-1-k:Nat):Int):=by rw[List.length_map,FC];lia
    rw[ei];have T2:=TR.keep Au.same;obtain⟨rb,g1,g2,g3⟩:=T2.te.at (show n-1-k<n by lia);have V2:Vd f1 o p W (Vb n m (n-1-k) m) s2:=Vd.turn (by rw[show n-1-k+1=n-k by lia];exact V2);have WW:(k+1)*m≤n*m:=Nat.mul_le_mul_right m Xu;have WX:(k+1)*m=k*m+m:=Nat.succ_mul k m;have lm:∀g:Nat→Option Int,(cU m g).length=m:=fun g=>by simp[cU]
    refine⟨_,rfl,tr,az,dt,_,_,rfl,T2.ob,Rc.cl,Rc.lG,iR o p e b,_,rfl,e,_,_,_,rfl,rfl, .of T2.he,ax g2,rb,_,rfl, .inl (.of g3),_,_,rfl,rfl,_,rfl,_,rfl,_,_,rfl,⟨by rw[lm];lia,by rw[lm];lia,XC,XC⟩,?_⟩;have VC:((((cU m (dj f1 o p (n-1-k))).length:Nat):Int)-1- -1).toNat=m:=by rw[lm];lia
    rw[VC];refine Yy (fun l σ H3=>(∃v,σ=[some (.ref tr),some (.int W),some (.ref gx),some (.int ((n-1-k:Nat):Int)),v])∧∃S s B M,Base H H3 S∧iT H3 ay aF gx tr W S s B M∧Vd f1 o p W (Vb n m (n-1-k) (m-l)) s∧B≤2*(k*m+l)∧M≤3*(k*m+l)) ⟨⟨_,rfl⟩,S2,s2,B,M,Au,G2,V2,hB,hM⟩ ?_ ?_
    ·rintro l σ H3 hl ⟨⟨v3,rfl⟩,S3,s3,B3,M3,FJ,G3,V3,VD,VE⟩;have ej:(((cU m (dj f1 o p (n-1-k))).length:Nat):Int)-1-(l:Int)=((m-1-l:Nat):Int):=by rw[lm];lia
     rw[ej];obtain⟨dx,g,dk,km,S1,D⟩:=id G3;have V3:Vd f1 o p W (Vb n m (n-1-k) (m-1-l+1)) s3:=by rw[show m-1-l+1=m-l by lia];exact V3
     refine⟨_,rfl,gx,dx,_,rfl,D.ob,DH tr W g dk,_,rfl,_,rfl,gx,tr,dt,e,b,es,bs,f1,o,p,n,m,W,n-1-k,m-1-l,S3,s3,B3,M3,H,rfl,G3,TR,FJ,by lia,by lia,hn,hm,TP,V3.ok,by lia,by lia,fun H4 S4 u4 G4=>?_⟩;refine⟨⟨_,rfl⟩,S4,_,_,_,FJ.ups u4,G4,?_,by lia,by lia⟩;have:=V3.next TP (show n-1-k<n by lia) (show m-1-l<m by lia);rw[show m-(l+1)=m-1-l by lia];exact this
    ·rintro σ H3 ⟨⟨v3,rfl⟩,S3,s3,B3,M3,FJ,G3,V3,VD,VE⟩;refine⟨⟨_,_,rfl⟩,S3,s3,B3,M3,FJ,G3,?_,by lia,by lia⟩;rw[show n-(k+1)=n-1-k by lia,show(0:Nat)=m-m by lia];exact V3
   ·rintro σ H2 ⟨⟨u,v,rfl⟩,S2,s2,B,M,Au,G2,V2,hB,hM⟩;rw[Nat.sub_self]at V2;exact⟨⟨_,_,rfl⟩,S2,s2,B,M,Au,G2,V2,by lia⟩
  rintro σ H2 ⟨⟨u,v,rfl⟩,S2,s2,B,M,Au,G2,V2,hB⟩;obtain⟨dx,g,dk,km,S1,D⟩:=id G2;obtain⟨dg,dl,dm,kl,Fp,ld,mm,og,_⟩:=id D.gr;have HG:=fun a b=>V2.Qc TP IT a b
  refine⟨_,rfl,gx,ay,dx,_,_,rfl,D.ob,Hc.cl,Hc.groups,jx tr W g dk,g,dg,_,rfl,og,Jm dl dm,g,S1,_,B,rfl,D.gr,by lia,fun H3 r us gs u3 rZ wH W3 J0 TD=>?_⟩;have FJ:Base H H2 S1:=⟨Au.same,fun a h=>Au.free a ((D.sS a).mpr (.inl h))⟩
  exact q _ r us gs (FJ.ups u3).same (Au.same.free rZ) wH W3 (fun k a h=>Au.same.free (J0 k a h)) (TD.iff HG)
theorem pd:aJ ["taken","shut","pair"] ["taken"] (aq nX):=⟨rfl,rfl,rfl,by decide+kernel,rfl,by decide+kernel,by decide+kernel⟩
include T in
theorem ZS{f:Addr}{fd:FuncData}(F:lD K "shut_by" "shut_by" nX f fd):a8 P w K mg base (dq P w) true 1 f fd ["taken"] we:=by
 refine F.iW pd XA (fun cj A outer s H vs Q E hr h hX=>?_)
 ·obtain⟨v,cB,rfl,_⟩:=h;rfl
 ·obtain⟨v,cB,rfl,TV,hlen,q⟩:=h;have hu:=hr.units;have hu:(A.deeper (PyProof.Rows.envOfC "shut_by" (aq nX) s.heap.objs.size f cj)).units+1<cLine:=XB;refine⟨_,(Xk (W_ (1) pd.nd kX) (Xn (Xq (Xi (@pG _ _ _ _ _ (pv 0))) (Xl (@b_ _ _ _ _ _ _ _ _ hX.own Xw (@bE _ K _ _ _ (pv 0) (XD)) (Xa (2) pd.nd (Or.inl rfl)) (Xl (@lB _ _ _ _ _ _ _ _ _ hu (pv 1) (pv 2) ja Xw)) (by intro _;rfl))) aS) (Xl (@aM _ _ _ _ (pv 1))))),?_⟩;refine fun d hd=>?_
  refine⟨fun σ H1=>(∃u,σ=[some v,some (.ref d),u])∧au H H1∧∃kvs,H1 d=some (.dT kvs)∧oB kvs cB,?_,?_⟩
  ·refine⟨_,rfl,_,rfl,?_⟩;rcases TV with⟨rfl,rfl⟩|⟨l,us,rfl,hl,P1⟩
   ·refine ba (fun hh=>absurd hh Xy) (fun _=>?_);exact⟨⟨_,rfl⟩,au.upd hd,[],ae,fun p=>by simp[tw]⟩
   ·refine ba (fun _=>?_) (fun hh=>absurd Xy hh);have Mr:=P1.1;refine⟨_,rfl,l,rfl,⟨_, .of (au.upd hd _ _ hl)⟩,?_⟩;refine cD (xs:=us) (fun i σ H'=>(∃u,σ=[some (.ref l),some (.ref d),u])∧au H H'∧∃kvs,H' d=some (.dT kvs)∧kvs.length≤i∧oB kvs (cB.take i)) ?_ ?_ ?_ ?_
    ·exact⟨⟨_,rfl⟩,au.upd hd,[],ae,Nat.le_refl _,fun p=>by simp[tw]⟩
    ·rintro i σ H' _ ⟨_,s1,_⟩;exact .of (s1 _ _ hl)
    ·rintro i x σ H' hx ⟨⟨u,rfl⟩,s1,kvs,hD,hk,hS⟩;have hi:i<cB.length:=by rw[←Mr];exact(Xc hx).1
     obtain⟨t,Ao,wX⟩:=P1.Pn hi;rw[hx]at Ao;cases Ao;refine⟨_,rfl,_,rfl,d,_,rfl, .t (k:=aZ (pr cB i)) hD (s1 _ _ wX) (a_ Xz),⟨_,rfl⟩,s1.fD hd,_,ae,Nat.le_trans (eO _ _ _) (XB),fun p=>?_⟩;have e1:cB.take (i+1)=cB.take i++[pr cB i]:=by rw[List.take_succ,Gs hi];rfl
     rw[jC,e1];by_cases hp:p=pr cB i
     ·rw[Xp (by rw[hp])];simp[hp]
     ·rw[Xm (fun z=>hp ?_),hS p]
      ·simp[hp]
      ·simp only[aZ,List.cons.injEq,Sum.inl.injEq,and_true]at z;exact Prod.ext z.1 z.2
    ·rintro σ H' ⟨⟨u,rfl⟩,s1,kvs,hD,_,hS⟩;rw[Mr,List.take_length]at hS;exact⟨⟨_,rfl⟩,s1,kvs,hD,hS⟩
  rintro σ H1 ⟨⟨u,rfl⟩,s1,kvs,hD,hS⟩;exact⟨_,rfl,q H1 d kvs s1 hD hS⟩
variable(nZ:cc P w K mg base true 1 "shut_by" ["taken"] we)
variable(dW:ed P w K mg base true 1 aQ "pair_worth" ["self","x","y"] (vZ aQ))
theorem dB:aJ ["first","second","terms","taken","shut","worths","i","x","row"] ["first","second","terms","taken"] (aq fI):=⟨rfl,rfl,rfl,by decide+kernel,rfl,by decide+kernel,by decide+kernel⟩
include T Tc nZ dW in
theorem ue{f:Addr}{fd:FuncData}(F:lD K "open_worths" "open_worths" fI f fd):a8 P w K mg base (dq P w) true 2 f fd ["first","second","terms","taken"] (t6 aQ):=by
 refine F.iW dB XA (fun cj A outer s H vs Q E hr h hX=>?_)
 ·obtain⟨f,g,t,v,c,cB,rfl,_⟩:=h;rfl
 ·obtain⟨f1,g,t,v,c,cB,rfl,hf,hg,TF,TV,O5,P6,Sg,q⟩:=h;have hu:=hr.units;have hu:(A.deeper (PyProof.Rows.envOfC "open_worths" (aq fI) s.heap.objs.size f cj)).units+1<cLine:=XB;have lx:(c.xs.map V.str).length=c.xs.length:=List.length_map ..;have ly:(c.ys.map V.str).length=c.ys.length:=List.length_map ..;refine⟨_,(Xn (@aH _ _ (4) _ _ _ _ dB.nd Xw (Or.inr rfl) (W' nZ aR (W9 (pv 3) af)) (XD) (by exact .inl rfl)) (Xn (W_ (5) dB.nd (@bR _ _ _ _ af)) (Xn (@b_ _ _ _ _ _ _ _ _ hX.own Xw (@pX _ K _ _ _ _ _ _ _ Xw T.j9 (W9 (pv 0) af) (XD) (XD)) (@jf _ K _ _ _ (2) _ Xw (@br _ _ _ _ _ (Xa (6) dB.nd (Or.inr rfl)) (@br _ _ _ _ _ (Xa (7) dB.nd (Or.inr rfl)) jd (XD)) (XD)) (XD) (XD) (XD)) (Xn (@pT _ _ _ _ _ _ _ _ _ _ _ _ _ _ _ (8) _ _ Xw dB.nd Xw (by exact rfl) (show bD ["first","second","terms","taken","shut","worths","i","x","row"] (aq fI) _ ["j","y"] [6,4,2,7] ["i","shut","terms","x"]from⟨rfl,by decide+kernel,by decide+kernel,by decide+kernel,rfl,rfl,by decide+kernel,by decide+kernel,by decide+kernel⟩) (@pX _ K _ _ _ _ _ _ _ Xw T.j9 (W9 (pv 1) af) (XD) (XD)) (fun _ _ _ _ _=>(@jf _ K _ _ _ (2) _ Xw (@br _ _ _ _ _ (Xa (0) (show(["j","y","i","shut","terms","x"]:List Str).Nodup by decide+kernel) (Or.inl rfl)) (@br _ _ _ _ _ (Xa (1) (show(["j","y","i","shut","terms","x"]:List Str).Nodup by decide+kernel) (Or.inl rfl)) jd (XD)) (XD)) (XD) (XD) (XD))) (fun _ _ _ _ _=>j8) (fun _ _ _ _ _=>(@pH _ _ _ _ _ _ _ _ (Xi (@qN _ _ _ _ _ hu (@fB _ _ _ _ _ (W9 (pv 2) (W9 (pv 0) af))) (pv 3))) lA (Xh (pv 4) dW (hr.mono (XC)) aR (W9 (pv 5) (W9 (pv 1) af))))) (XD) (by intro _;rfl)) (Xl (@aY _ _ _ _ (Xg K PySem.F.plainAttrs_list PySem.F.slot_list_append PySem.F.type_list_append bJ (pv 5) (W9 (pv 8) af)) (XD)))) (by intro _;rfl)) (Xl (@aM _ _ _ _ (pv 5)))))),?_⟩;refine⟨fun σ H1=>∃d kvs,σ=[some (.ref f1),some (.ref g),some (.ref t),some v,some (.ref d),none,none,none,none]∧au H H1∧H1 d=some (.dT kvs)∧oB kvs cB,?_,?_⟩
  ·exact⟨_,rfl,v,cB,rfl,TV,O5,fun H1 d kvs s1 hd hS=>⟨d,kvs,rfl,s1,hd,hS⟩⟩
  rintro σ H1 ⟨d,kvs,rfl,s1,VF,hS⟩;refine⟨fun σ H2=>∃e,σ=[some (.ref f1),some (.ref g),some (.ref t),some v,some (.ref d),some (.ref e),none,none,none]∧au H1 H2∧H1 e=none∧H2 e=some (.lst []),?_,?_⟩
  ·exact⟨aC Xy,fun e he=>⟨e,rfl,au.upd he,he,ae⟩⟩
  rintro σ H2 ⟨e,rfl,s2,GR,Kg⟩;refine⟨fun σ H3=>(∃u1 u2 u3,σ=[some (.ref f1),some (.ref g),some (.ref t),some v,some (.ref d),some (.ref e),u1,u2,u3])∧au H1 H3∧∃as:List Addr,H3 e=some (.lst (as.map V.ref))∧jG H3 as (mQ c cB) c.xs.length c.ys.length∧(∀a∈as,H1 a=none∧a≠e)∧as.Nodup,?_,?_⟩
  ·refine⟨_,rfl,f1,rfl,⟨_, .of (s2 _ _ (s1 _ _ hf))⟩,?_⟩;refine Z6 (xs:=c.xs.map V.str) (fun i σ H'=>(∃u1 u2 u3,σ=[some (.ref f1),some (.ref g),some (.ref t),some v,some (.ref d),some (.ref e),u1,u2,u3])∧au H1 H'∧∃as:List Addr,H' e=some (.lst (as.map V.ref))∧jG H' as (mQ c cB) i c.ys.length∧(∀a∈as,H1 a=none∧a≠e)∧as.Nodup) ?_ ?_ ?_ ?_
   ·exact⟨⟨_,_,_,rfl⟩,s2,[],Kg,⟨rfl,fun i a h=>by simp at h⟩,(fun a h=>by cases h), .nil⟩
   ·rintro i σ H' _ ⟨_,s3,_⟩;exact .of (s3 _ _ (s1 _ _ hf))
   ·rintro i x T' σ H' hx ⟨⟨u1,u2,u3,rfl⟩,s3,as,Eb,TA,hn,D_⟩ hT;obtain⟨wx,N_,rfl⟩:=nO hx;have hi:i<c.xs.length:=(Xc N_).1;have s4:au H1 (upd H' T' (.tup [.int i, .str wx])):=s3.trans (au.upd hT);have Oa:=au.upd (o:= .tup [.int i, .str wx]) hT _ _ Eb;have Ob:=TA.same (au.upd (o:= .tup [.int i, .str wx]) hT);refine⟨T',_,rfl, .of ae,rfl,_,_,rfl,_,_,rfl,rfl,?_⟩;generalize upd H' T' (.tup [.int i, .str wx])=H4 at s4 Oa Ob;clear TA Eb s3 hT;refine⟨fun σ H5=>∃r,σ=[some (.ref f1),some (.ref g),some (.ref t),some v,some (.ref d),some (.ref e),some (.int i),some (.str wx),some (.ref r)]∧au H4 H5∧H4 r=none∧H5 r=some (.lst (cU c.ys.length (mQ c cB i))),?_,?_⟩
    ·have Sj:=s4 _ _ (s1 _ _ hg);refine⟨_,rfl,g,rfl,⟨_, .of Sj⟩,fun D hD=>?_⟩;refine vf (xs:=c.ys.map V.str) (fun j ys bF H5=>(∃w1 w2,bF=[w1,w2,some (.int i),some (.ref d),some (.ref t),some (.str wx)])∧ys=cU j (mQ c cB i)∧H5 D=some (.lst ys)∧au H4 H5) ⟨⟨_,_,rfl⟩,rfl,ae,au.upd hD⟩ ?_ ?_ ?_
     ·rintro j ys bF H5 _ ⟨_,_,_,s5⟩;exact .of (s5 _ _ Sj)
     ·rintro j y T2 ys bF H5 hy ⟨⟨w1,w2,rfl⟩,rfl,Ed,s5⟩ Mo;obtain⟨wy,BH,rfl⟩:=nO hy;have hj:j<c.ys.length:=(Xc BH).1;have s6:au H4 (upd H5 T2 (.tup [.int j, .str wy])):=s5.trans (au.upd Mo);have MF:=au.upd (o:= .tup [.int j, .str wy]) Mo _ _ Ed;refine⟨T2,_,rfl, .of ae,rfl,_,_,rfl,_,_,rfl,rfl,?_⟩;generalize upd H5 T2 (.tup [.int j, .str wy])=H6 at s6 MF;refine vT ?_;refine⟨_,rfl,_,rfl,aC Xy,fun p hp=>?_⟩;have s7:=s6.trans (au.upd (o:= .tup [.int (i:Int), .int (j:Int)]) hp);have sA:=s4.trans s7;have Ko:=au.upd (o:= .tup [.int (i:Int), .int (j:Int)]) hp _ _ MF;have len:(cU j (mQ c cB i)).length<sizeLine:=a_ (by rw[cV];omega);have sn:∀u,u=mQ c cB i j→cU j (mQ c cB i)++[bC u]=cU (j+1) (mQ c cB i):=fun u e=>by rw[qV,e]
      have Qz:c.pw ((i:Int),(j:Int))=dI c.same c.fs wx wy:=Case.pw_of (by rw[tN];exact N_) (by rw[tN];exact BH);refine⟨_,rfl,d,_,rfl, .t (k:=aZ ((i:Int),(j:Int))) (sA _ _ VF) ae,_,rfl,?_⟩;rw[hS];refine ba (fun h1=>?_) (fun h1=>?_)
      ·have h1:((i:Int),(j:Int))∈cB:=by simpa using h1
       refine⟨Ko,len,⟨_,_,rfl⟩,?_,ae,s7.fD hD⟩;exact sn none (by simp[mQ,X0,h1])
      ·have h1:((i:Int),(j:Int))∉cB:=by simpa using h1
       obtain⟨n,dx,l,dd,vs,T1,e1,e2,e3,e4⟩:=(TF.keep s1).keep sA;refine⟨_,rfl,t,dx,_,rfl,T1.ob,vX n l dd,_,rfl,_,rfl,t,wx,wy,n,c.fs,dx,l,dd,vs,rfl,T1,fun H8 s8=>?_⟩;refine⟨s8 _ _ Ko,len,⟨_,_,rfl⟩,?_,ae,(s7.trans s8).fD hD⟩;exact sn _ (by simp[mQ,X0,h1,Qz,e1])
     ·rintro ys bF H5 ⟨_,rfl,Ed,s5⟩;rw[ly]at Ed;exact⟨D,rfl,s5,hD,Ed⟩
    rintro σ H5 ⟨r,rfl,s5,rZ,QA⟩;have Sk:r≠e:=Ne.symm (aA Oa rZ);have hlen:=Ob.len;refine⟨_,rfl, .inl ⟨rfl,_, .of (s5 _ _ Oa)⟩,_,rfl,e,_,_,rfl,rfl,s5 _ _ Oa,a_ (by rw[List.length_map];omega),⟨_,_,_,rfl⟩,(s4.trans s5).fD GR,as++[r],by rw[ae];simp,⟨by simp[hlen],fun k a hk=>?_⟩,fun a ha=>?_,List.nodup_append.mpr ⟨D_,XE,fun x hx y hy e9=>?_⟩⟩
    ·by_cases h:k<i
     ·rw[List.getElem?_append_left Xz]at hk;rw[ai (hn a (Xj hk)).2];exact s5 _ _ (Ob.row k a hk)
     ·rw[List.getElem?_append_right Xz]at hk;have X9:k-as.length=0:=by
       have:=(Xc hk).1;simp at this;omega
      rw[X9]at hk;have:r=a:=by simpa using hk
      subst this;rw[ai Sk];have:k=i:=XB;rw[this];exact QA
    ·rcases List.mem_append.mp ha with ha|ha
     ·exact hn a ha
     ·have:a=r:=by simpa using ha
      rw[this];exact⟨s4.free rZ,Sk⟩
    ·have hy:y=r:=by simpa using hy
     obtain⟨k,hk,ek⟩:=List.mem_iff_getElem.mp hx;have:=Ob.row k x (by rw[List.getElem?_eq_getElem hk,ek]);rw[e9,hy,rZ]at this;cases this
   ·rintro σ H' ⟨⟨u1,u2,u3,rfl⟩,s3,as,Eb,TA,hn,D_⟩;rw[lx]at TA;exact⟨⟨_,_,_,rfl⟩,s3,as,Eb,TA,hn,D_⟩
  rintro σ H3 ⟨⟨u1,u2,u3,rfl⟩,s3,as,Eb,TA,hn,D_⟩;exact⟨_,rfl,q H3 e as (s1.trans s3) Eb (s1.free GR) TA D_ (fun z=>(hn e z).2 rfl) fun a ha=>s1.free (hn a ha).1⟩
variable(n5:ot P w K mg base true 4 "Trails" az ["self","worths","terms"] [] (rf az aQ))
variable(iJ:cc P w K mg base true 5 "best_groups" ["trails","worth"] (YY az))
variable(gz:cc P w K mg base true 6 "make_finding" ["trails","worth","pairs"] (YW az aB))
theorem kH:aJ ["worths","terms","trails","worth"] ["worths","terms"] (aq gv):=⟨rfl,rfl,rfl,by decide+kernel,rfl,by decide+kernel,by decide+kernel⟩
include T Tc eZ Rc n5 iJ gz in
theorem uE{f:Addr}{fd:FuncData}(F:lD K "make_round" "make_round" gv f fd):a8 P w K mg base (dq P w) true 7 f fd ["worths","terms"] (p_ aQ aB):=by
 refine F.iW kH XA (fun cj A outer s H vs Q E hr h hX=>?_)
 ·obtain⟨w,t,as,c,f,n,m,rfl,_⟩:=h;rfl
 ·obtain⟨w,t,as,c,f1,n,m,rfl,hw,TA,TF,IT,Si,hn,hm,q0,q1⟩:=h;refine⟨_,(Xn (@aH _ _ (2) _ _ _ _ kH.nd Xw (Or.inr rfl) (@sQ _ _ _ _ _ _ _ _ _ _ _ _ _ _ n5 (hr.mono (XC)) hX.pass (W9 (pv 0) (W9 (pv 1) af)) (XD) (XC) (XD) (XD)) (XD) (by exact .inl rfl)) (Xn (@aH _ _ (3) _ _ _ _ kH.nd Xw (Or.inr rfl) (W' eZ aR (W9 (@pS _ _ _ _ _ _ _ _ _ _ _ _ _ _ Xw (show bD ["worths","terms","trails","worth"] (aq gv) _ ["row"] [] []from⟨rfl,by decide+kernel,by decide+kernel,by decide+kernel,rfl,rfl,by decide+kernel,by decide+kernel,by decide+kernel⟩) (@bE _ K _ _ _ (Xd K (pv 2)) (XD)) (fun _ _ _ _ _=>(Xa (0) (show(["row"]:List Str).Nodup by decide+kernel) (Or.inl rfl))) (fun _ _ _ _ _=>j8) (fun _ _ _ _ _=>(W' eZ aR (W9 (pv 0) af))) (by intro _;rfl)) af)) (XD) (by exact .inl rfl)) (Xn (Xq (@PW.pt _ _ _ (@pw_or _ _ _ _ _ _ _ (Xi (@qH _ _ _ _ _ (pv 3))) (@pw_or1 _ _ _ _ (@aU _ _ _ _ _ _ _ _ rM (pv 3) (Xd K (pv 1)) (aW _))))) (Xl (@aM _ _ _ _ (@bR _ _ _ _ af))) aS) (Xl (@aM _ _ _ _ (@pS _ _ _ _ _ _ _ _ _ _ _ _ _ _ Xw (show bD ["worths","terms","trails","worth"] (aq gv) _ ["pairs"] [2,3] ["trails","worth"]from⟨rfl,by decide+kernel,by decide+kernel,by decide+kernel,rfl,rfl,by decide+kernel,by decide+kernel,by decide+kernel⟩) (@bE _ K _ _ _ (W' iJ aR (W9 (pv 2) (W9 (pv 3) af))) (XD)) (fun _ _ _ _ _=>(Xa (0) (show(["pairs","trails","worth"]:List Str).Nodup by decide+kernel) (Or.inl rfl))) (fun _ _ _ _ _=>j8) (fun _ _ _ _ _=>(W' gz aR (W9 (pv 1) (W9 (pv 2) (W9 (pv 0) af))))) (by intro _;rfl))))))),?_⟩;refine⟨fun σ H1=>∃x dx e b es,σ=[some (.ref w),some (.ref t),some (.ref x),none]∧au H H1∧H1 x=some (.ins az dx (gZ c.out c.into e b))∧H1 e=some (.lst (es.map V.ref))∧jG H1 es (dj f1 c.out c.into) n m∧(0<n→∃bs,q_ H1 az x dx e b es bs f1 c.out c.into n m),?_,?_⟩
  ·refine⟨_,rfl,_,rfl,fun x dx hx CJ f9=>?_⟩;have s5:au H (upd (upd H dx (.own x)) x (.ins az dx [])):=(au.upd CJ).fD hx;refine⟨x,dx,w,t,c,as,f1,n,m,rfl,ae,by rw[ai f9];exact ae,s5 _ _ hw,TA.same s5,TF.keep s5,hn,hm,fun H6 e b sb Sl Te Tb=>?_⟩;obtain⟨es,he,_,TE,_⟩:=Te;refine⟨rfl,x,dx,e,b,es,rfl,SameBut.YX hx CJ sb,Sl,he,TE,fun h=>?_⟩;obtain⟨bs,hb,_,VG,_⟩:=Tb h;exact⟨bs,Sl,he,TE,hb,VG⟩
  rintro σ H1 ⟨x,dx,e,b,es,rfl,s1,n8,XF,TE,VH⟩;have FC:es.length=n:=TE.len;refine⟨fun σ H2=>σ=[some (.ref w),some (.ref t),some (.ref x),some (bC (Ft f1 c.out c.into n m))]∧au H1 H2,?_,?_⟩
  ·refine⟨_,rfl,x,az,dx,_,_,rfl,n8,Rc.cl,Rc.lG,iR c.out c.into e b,e,rfl,⟨_, .of XF⟩,fun D hD=>?_⟩;refine kZ (xs:=es.map V.ref) (fun k ys bF H'=>(∃u,bF=[u])∧ys=((List.range k).map fun i=>bC (pY ((List.range m).map (dj f1 c.out c.into i))))∧H' D=some (.lst ys)∧au H1 H') ⟨⟨_,rfl⟩,rfl,ae,au.upd hD⟩ ?_ ?_ ?_
   ·rintro k ys bF H' _ ⟨_,_,_,s2⟩;exact .of (s2 _ _ XF)
   ·rintro k v ys bF H' hv ⟨⟨u,rfl⟩,rfl,sF,s2⟩;have hk:k<n:=by rw[←FC];have:=(Xc hv).1;simpa using this
    obtain⟨rb,g1,g2,g3⟩:=TE.at hk;rw[hv]at g2;cases g2;refine tI ?_;refine⟨_,rfl,rb,(List.range m).map (dj f1 c.out c.into k),rfl,?_,by simpa using hm,fun NL s3=>?_⟩
    ·rw[s2 _ _ g3,List.map_map];rfl
    ·refine⟨s3 _ _ sF,a_ (by simp;omega),⟨_,rfl⟩,?_,ae,(s2.trans s3).fD hD⟩;rw[List.range_succ,List.map_append];rfl
   ·rintro ys bF H' ⟨_,rfl,sF,s2⟩;rw[List.length_map,FC]at sF;refine⟨D,(List.range n).map fun i=>pY ((List.range m).map (dj f1 c.out c.into i)),rfl,by rw[sF,List.map_map];rfl,by simpa using hn,fun NL s3=>⟨rfl,s2.trans s3⟩⟩
  rintro σ H2 ⟨rfl,s2⟩;have G6:=s1.trans s2;obtain⟨nu,dt,l,d,vs,TM,z1,z2,z3,z4⟩:=TF.keep G6;have MX:=DK IT c.out c.into;refine⟨fun σ H3=>∃W,Ft f1 c.out c.into n m=some W∧c.least≤W∧σ=[some (.ref w),some (.ref t),some (.ref x),some (.int W)]∧H3=H2,?_,?_⟩
  ·refine⟨_,rfl,_,rfl,?_⟩;cases eT:Ft f1 c.out c.into n m with
   |none=>
    rw[eT]at MX;refine mL ?_;refine mL ?_;exact⟨aC Xy,fun r rZ=>q0 (fun ps hp=>absurd ⟨ps,hp,rfl⟩ (MX _)) _ r (G6.trans (au.upd rZ)) (G6.free rZ) ae⟩
   |some W=>
    rw[eT]at MX;refine ba (fun hh=>absurd hh (by simp[bC])) (fun _=>?_);refine⟨_,rfl,_,rfl,t,aQ,dt,_,_,rfl,TM.ob,Tc.cl,Tc.least,ER nu l d,_,_,rfl,rfl,_,rfl,?_⟩;refine ba (fun hh=>?_) (fun hh=>?_)
    ·have hh:W<nu.least:=by simpa using hh
     rw[z4]at hh;exact⟨aC Xy,fun r rZ=>q0 (fun ps hp=>by have:=MX.2 _ ⟨ps,hp,rfl⟩;omega) _ r (G6.trans (au.upd rZ)) (G6.free rZ) ae⟩
    ·have hh:¬W<nu.least:=by simpa using hh
     rw[z4]at hh;exact⟨W,rfl,XB,rfl,rfl⟩
  rintro σ H2 ⟨W,eT,hle,rfl,rfl⟩;rw[eT]at MX;obtain⟨Sn,w0,So⟩:=MX.1;have TP:eR f1 c.out c.into W:=fun ps hp=>MX.2 _ ⟨ps,hp,rfl⟩
  have Qn:0<n:=by
   obtain⟨i,j,_,hi,_⟩:=kC IT w0 (cH w0.ne);omega
  obtain⟨bs,TR⟩:=VH Qn;have Sq:=TR.keep s2;refine⟨_,rfl,_,rfl,x,dx,e,b,es,bs,f1,c.out,c.into,n,m,W,rfl,Sq,IT,Si,hn,hm,TP,fun H3 r us gs s3 rZ wH W3 J0 TD=>?_⟩;have FK:∀g∈gs,∀a∈g,∃i j:Nat,a=aK (i,j)∧i<n∧j<m:=fun g hg a ha=>by
   obtain⟨ps,wp,hm⟩:=(TD.mem hg ha).on;exact kC IT wp.1 hm
  have rO:∀g∈gs,g.length≤n*m:=fun g hg=>by
   have:=len_sub g (uy n m) ((TD.sV g hg).imp fun{a b} h e=>by
    rw[e]at h;unfold iE at h;simp at h) fun a ha=>by
    obtain⟨i,j,rfl,hi,hj⟩:=FK g hg a ha;exact p9 hi hj
   rw[p8]at this;exact this
  have Ca:=TD.wR FK;have QB:gs≠[]:=fun z=>by
   obtain⟨i,j,h1,_⟩:=kC IT w0 (cH w0.ne);obtain⟨g,hg,_⟩:=TD.all _ (gY.way Sn ⟨w0,So.symm⟩ (cH w0.ne) (cH w0.ne));rw[z]at hg;cases hg
  have hW:=W3.1;refine⟨r,rfl,⟨_, .of wH⟩,fun D hD=>?_⟩;refine kZ (xs:=us) (fun k ys bF H'=>(∃u,bF=[u,some (.ref x),some (.int W)])∧H' D=some (.lst ys)∧au H3 H'∧∃ds,cz (fun b=>H2 b=none∧b≠D) H' aB ys ds∧ds.map Fd.pairs=gs.take k∧∀d∈ds,Mc f1 c.out c.into W d) ⟨⟨_,rfl⟩,ae,au.upd hD,[], .nil,rfl,fun d h=>(by cases h)⟩ ?_ ?_ ?_
  ·rintro k ys bF H' _ ⟨_,_,s4,_⟩;exact .of (s4 _ _ wH)
  ·rintro k v ys bF H' hv ⟨⟨u,rfl⟩,G7,s4,ds,F4,MI,bO⟩;have hk:k<gs.length:=by rw[←hW];exact(Xc hv).1
   have ek:gs[k]?=some gs[k]:=by simp[hk]
   have jH:gs[k]∈gs:=List.getElem_mem hk;generalize gs[k]=g at ek jH;obtain⟨pa,Sr,k1,k2,k3⟩:=W3.2 k g ek;rw[hv]at k1;cases k1;have QC:=J0 k pa hv;have MJ:pa≠D:=fun z=>by rw[z,hD]at k2;cases k2
   obtain⟨gn,MK⟩:∃gn:List (Nat×Nat),g=gn.map aK:=by
    refine⟨g.map fun a=>(a.1.toNat,a.2.toNat),?_⟩;rw[List.map_map]
    conv=>lhs;rw[←List.map_id g]
    apply List.map_congr_left;intro a ha;obtain⟨i,j,rfl,_⟩:=FK g jH a ha;simp[aK]
   obtain⟨i0,j0,z5,z6,z7,z8⟩:∃i j:Nat,dj f1 c.out c.into i j=some W∧i<n∧j<m∧aK (i,j)∈g:=by
    obtain⟨a,ha⟩:=List.exists_mem_of_ne_nil _ (TD.ne g jH);obtain⟨i,j,h1,h2,h3,h4⟩:=Bk TP IT (TD.mem jH ha);exact⟨i,j,h1,h2,h3,(TD.cls g jH a ha _).mpr h4⟩
   have QD:gn.filter (fun q=>decide (dj f1 c.out c.into q.1 q.2=some W))≠[]:=fun z=>by
    rw[MK]at z8;obtain⟨q9,VI,e9⟩:=List.mem_map.mp z8;obtain⟨VJ,VL⟩:=jh (a:=q9.1) (b:=q9.2) e9;have:q9∈gn.filter (fun q=>decide (dj f1 c.out c.into q.1 q.2=some W)):=List.mem_filter.mpr ⟨VI,by rw[VJ,VL];simpa using z5⟩;rw[z]at this;cases this
   obtain⟨uf,FG⟩:∃q0,(gn.filter fun q=>decide (dj f1 c.out c.into q.1 q.2=some W))[0]?=some q0:=by
    cases e9:gn.filter (fun q=>decide (dj f1 c.out c.into q.1 q.2=some W))with
    |nil=>exact absurd e9 QD
    |cons a r=>exact⟨a,rfl⟩
   have MN:=List.mem_filter.mp (Xj FG);have QE:dj f1 c.out c.into uf.1 uf.2=some W:=by simpa using MN.2
   have VM:=Sq.keep (s3.trans s4);refine tI ?_;refine⟨_,rfl,_,rfl,_,rfl,x,dx,e,b,es,bs,f1,c.out,c.into,n,m,W,pa,Sr,gn,uf,rfl,VM,s4 _ _ k2,by rw[←MK];exact k3.same s4,fun q hq=>?_,FG,hn,?_,fun H5 y dy wy rw j4 s5 hy JB BH QG VN VO QH P5 QA=>?_⟩
   ·have:aK q∈g:=by rw[MK];exact List.mem_map.mpr ⟨q,hq,rfl⟩
    obtain⟨i,j,h1,h2,h3⟩:=FK g jH _ this;obtain⟨h4,h5⟩:=jh (a:=q.1) (b:=q.2) h1;omega
   ·have:=rO g jH;rw[MK,List.length_map]at this;omega
   ·obtain⟨v1,v2,v3,v4⟩:=Fs f1 c.out c.into uf.1 uf.1 uf.2 W (Nat.le_refl _) QE;have WY:=F4.1;have VP:ds.length=k:=by
     have:=congrArg List.length MI;rw[List.length_map,List.length_take]at this;omega
    have nD:∀{z},H' z=none→z≠D:=fun h z=>by rw[z,G7]at h;cases h
    have QI:au H2 H':=s3.trans s4;refine⟨s5 _ _ G7,a_ Xz,⟨_,rfl⟩,ae,(s4.trans s5).fD hD,ds++[⟨W,(eh f1 c.out c.into uf.1 uf.1 uf.2).map aK,Al (lf f1) c.out c.into ((eh f1 c.out c.into uf.1 uf.1 uf.2).map aK),g⟩],?_,?_,fun d hd=>?_⟩
    ·refine cz.append (F4.keep (fun b o hb e=>by rw[ai hb.2];exact s5 _ _ e) (fun a v e=>by rw[ai (fun z=>by rw[z,G7]at e;cases e)];exact s5 _ _ e) fun _ h=>h) ⟨rfl,fun k9 d9 e9=>?_⟩;have VQ:k9=0:=by
      have:=(Xc e9).1;simp at this;omega
     subst VQ;have e9:=(Xs e9).symm;subst e9;have T5:d6 H5 (upd H5 D (.lst (ys++[.ref y]))):=d6.lst (s5 _ _ G7);refine⟨y,dy,wy,rw,pa,j4,Sr,rfl,⟨by rw[ai (nD hy)];exact VN,by rw[ai (nD BH)];exact QH,P5.cq T5,?_,by rw[ai MJ];exact s5 _ _ (s4 _ _ k2),((k3.same s4).same s5).cq T5,⟨QI.free hy,nD hy⟩,⟨QI.free BH,nD BH⟩,⟨QI.free QG,nD QG⟩,⟨QC,MJ⟩⟩⟩;rw[ai (nD QG),QA]
     congr 2
     have:=congrArg (List.map bC) v4;rw[List.map_map,List.map_map]at this;exact this
    ·rw[List.map_append,MI,List.take_succ,ek];rfl
    ·rcases List.mem_append.mp hd with hd|hd
     ·exact bO d hd
     ·have:d=⟨W,(eh f1 c.out c.into uf.1 uf.1 uf.2).map aK,Al (lf f1) c.out c.into ((eh f1 c.out c.into uf.1 uf.1 uf.2).map aK),g⟩:=by simpa using hd
      subst this;refine⟨rfl,⟨v1,v3⟩,rfl,fun q hq=>?_⟩;have MD:aK uf∈g:=by rw[MK];exact List.mem_map.mpr ⟨_,MN.1,rfl⟩
      have v2:lstP ((eh f1 c.out c.into uf.1 uf.1 uf.2).map aK)=aK uf:=v2;exact(TD.cls g jH _ MD q).mpr (.way _ ⟨v1,v3⟩ (by rw[←v2];exact cH v1.ne) hq)
  ·rintro ys bF H' ⟨_,G7,s4,ds,F4,MI,bO⟩;rw[hW,List.take_length]at MI;have sA:=G6.trans (s3.trans s4);exact q1 W gs ds ⟨TP,⟨Sn,w0,So.symm⟩,hle,TD,MI,bO⟩ QB _ D ys sA ((G6.trans s3).free hD) G7 (F4.keep (fun _ _ _ h=>h) (fun _ _ h=>h) fun b hb=>G6.free hb.1)
theorem iK:aJ ["worths","findings","finding","i","j"] ["worths","findings"] (aq lL):=⟨rfl,rfl,rfl,by decide+kernel,rfl,by decide+kernel,by decide+kernel⟩
include T Fc in
theorem uF{f:Addr}{fd:FuncData}(F:lD K "shut_pairs" "shut_pairs" lL f fd):a8 P w K mg base (dq P w) true 1 f fd ["worths","findings"] (t8 aB):=by
 refine F.iW iK XA (fun cj A outer s H vs Q E hr h hX=>?_)
 ·obtain⟨w,md,as,us,ds,f,n,m,rfl,_⟩:=h;rfl
 ·obtain⟨w,md,as,us,ds,f1,n,m,rfl,hw,LZ,nw,TA,Ss,VR,FL,pC,q⟩:=h;refine⟨_,(Xl (@b_ _ _ _ _ _ _ _ _ hX.own Xw (@bE _ K _ _ _ (pv 1) (XD)) (Xa (2) iK.nd (Or.inl rfl)) (Xl (@b_ _ _ _ _ _ _ _ _ hX.own Xw (@bE _ K _ _ _ (Xd K (pv 2)) (XD)) (@jf _ K _ _ _ (2) _ Xw (@br _ _ _ _ _ (Xa (3) iK.nd (Or.inl rfl)) (@br _ _ _ _ _ (Xa (4) iK.nd (Or.inl rfl)) jd (XD)) (XD)) (XD) (XD) (XD)) (Xl (@Hw _ _ _ _ _ _ lA (@Hu _ _ _ _ _ _ _ (Xb (ar K) (pv 0) (pv 3)) (pv 4) set_list (by intro _;rfl)) (XD) (XD) (XD))) (by intro _;rfl))) (by intro _;rfl))),?_⟩;have rows:∀a∈as,∃xs,H a=some (.lst xs):=fun a ha=>by
   obtain⟨k,hk,ek⟩:=List.mem_iff_getElem.mp ha;exact⟨_,TA.row k a (by rw[List.getElem?_eq_getElem hk,ek])⟩
  have cq:∀H',(∀b o,b∉as→H b=some o→H' b=some o)→d6 H H':=fun H' k t v e=>k t _ (fun z=>by
   obtain⟨xs,h⟩:=rows t z;rw[e]at h;cases h) e
  have hlen:=FL.1;refine⟨_,rfl,md,rfl,⟨_, .of Ss⟩,?_⟩;refine cD (xs:=us) (fun k σ H1=>(∃u1 u2 u3,σ=[some (.ref w),some (.ref md),u1,u2,u3])∧(∀b o,b∉as→H b=some o→H1 b=some o)∧jG H1 as (mz f1 ((ds.take k).map Fd.pairs).flatten) n m) ⟨⟨_,_,_,rfl⟩,fun _ _ _ h=>h,TA⟩ ?_ ?_ ?_
  ·rintro k σ H1 _ ⟨_,k1,_⟩;exact .of (k1 _ _ VR Ss)
  ·rintro k v σ H1 hv ⟨⟨u1,u2,u3,rfl⟩,k1,T1⟩;have hk:k<ds.length:=by rw[←hlen];exact(Xc hv).1
   have ek:ds[k]?=some ds[k]:=by simp[hk]
   have jH:ds[k]∈ds:=List.getElem_mem hk;generalize ds[k]=d at ek jH;obtain⟨a,dy,wy,oq,pr,rT,j4,e1,F⟩:=FL.2 k d ek;rw[hv]at e1;cases e1;have uj:=F.pp.1;have et:((ds.take (k+1)).map Fd.pairs).flatten=((ds.take k).map Fd.pairs).flatten++d.pairs:=by
    rw[List.take_succ,ek,List.map_append,List.flatten_append];simp
   refine⟨_,rfl,a,aB,dy,_,_,rfl,k1 _ _ F.fa F.ob,Fc.cl,Fc.pairs,jJ d.worth wy oq pr,pr,rfl,⟨_, .of (k1 _ _ F.fp F.hp)⟩,?_⟩;refine cD (xs:=j4) (fun l σ H2=>(∃u2 u3,σ=[some (.ref w),some (.ref md),some (.ref a),u2,u3])∧(∀b o,b∉as→H b=some o→H2 b=some o)∧jG H2 as (mz f1 (((ds.take k).map Fd.pairs).flatten++d.pairs.take l)) n m) ⟨⟨_,_,rfl⟩,k1,by simpa using T1⟩ ?_ ?_ ?_
   ·rintro l σ H2 _ ⟨_,k2,_⟩;exact .of (k2 _ _ F.fp F.hp)
   ·rintro l v σ H2 Oc ⟨⟨v2,v3,rfl⟩,k2,T2⟩;have hl:l<d.pairs.length:=by rw[←uj];exact(Xc Oc).1
    have el:d.pairs[l]?=some d.pairs[l]:=by simp[hl]
    have hq:=pC d jH d.pairs[l] (List.getElem_mem hl);generalize d.pairs[l]=g at el hq;obtain⟨i,j,rfl,hi,hj⟩:=hq;obtain⟨t,g1,g2⟩:=F.pp.2 l _ el;rw[Oc]at g1;cases g1;have kt:=cq H2 k2 _ _ g2;refine⟨t,_,rfl, .of kt,rfl,_,_,rfl,_,_,rfl,rfl,?_⟩;obtain⟨ra,r1,r2,r3⟩:=T2.at hi;have NV:ra∈as:=Xj r1;refine⟨_,rfl,_,rfl,w,_,_,_,rfl,rfl, .of (k2 _ _ nw hw),ax r2,_,rfl,ra,_,_,j,rfl,rfl,r3,ET (by rw[cV];exact hj),⟨_,_,rfl⟩,fun b o hb e=>?_,⟨T2.len,fun x b hb=>?_⟩⟩
    ·rw[ai (fun z=>hb (by rw[z];exact NV))];exact k2 b o hb e
    ·have Su:d.pairs.take (l+1)=d.pairs.take l++[aK (i,j)]:=by rw[List.take_succ,el];rfl
     by_cases e:b=ra
     ·have ex:x=i:=by
       obtain⟨h1,e1⟩:=Xc hb;obtain⟨h2,e2⟩:=Xc r1;exact(List.getElem_inj LZ).mp (by rw[e1,e2,e])
      subst ex e;rw[ae];show some (HO.lst ((cU m _).set j (bC none)))=_;rw[CP]
      congr 2
      unfold cU;apply List.map_congr_left;intro y _;unfold mz;rw[Su,←List.append_assoc]
      congr 1
      dsimp only;by_cases ey:y=j
      ·subst ey;rw[if_pos rfl,if_pos Xy]
      ·rw[Xm ey];have:¬aK (x,y)=aK (x,j):=fun z=>ey (jh z).2
       simp[this]
     ·rw[ai e,T2.row x b hb]
      congr 2
      unfold cU;apply List.map_congr_left;intro y _;unfold mz;rw[Su,←List.append_assoc];have:¬aK (x,y)=aK (i,j):=fun z=>by
       have hk:=(jh z).1;subst hk;rw[r1]at hb;exact e (Xs hb).symm
      simp[this]
   ·rintro σ H2 ⟨⟨v2,v3,rfl⟩,k2,T2⟩;rw[uj,List.take_length]at T2;exact⟨⟨_,_,_,rfl⟩,k2,by rw[et];exact T2⟩
  ·rintro σ H1 ⟨_,k1,T1⟩;rw[hlen,List.take_length]at T1;exact q H1 k1 (cq H1 k1) T1
variable(bu:BU mg "FINDINGS_MOST" (.int 20))
variable(iL:cc P w K mg base true 2 "open_worths" ["first","second","terms","taken"] (t6 aQ))
variable(gA:cc P w K mg base true 7 "make_round" ["worths","terms"] (p_ aQ aB))
variable(jn:cc P w K mg base true 1 "shut_pairs" ["worths","findings"] (t8 aB))
variable(lS:cc P w K mg base true 1 "order_of" ["finding"] (tT aB))
variable(lr:Er K mg "TooMany" lg)
theorem jP:aJ ["first","second","terms","worths","findings","made"] ["first","second","terms"] (aq rm):=⟨rfl,rfl,rfl,by decide+kernel,rfl,by decide+kernel,by decide+kernel⟩
include T jO bu iL gA jn lS lr in
theorem Zh{f:Addr}{fd:FuncData}(F:lD K "compare" "compare" rm f fd):a8 P w K mg base (dq P w) true 8 f fd ["first","second","terms"] (wD aQ aB lg):=by
 refine F.iW jP XA (fun cj A outer s H vs Q E hr h hX=>?_)
 ·obtain⟨a,b,t,c,rfl,_⟩:=h;rfl
 ·obtain⟨a,b,t,c,rfl,ha,hb,TF,hx,hy,q1,q2⟩:=h;refine⟨_,(Xn (W_ (3) jP.nd (W' iL aR (W9 (pv 0) (W9 (pv 1) (W9 (pv 2) (W9 lA af)))))) (Xn (W_ (4) jP.nd (@bR _ _ _ _ af)) (Xn (W_ (5) jP.nd (W' gA aR (W9 (pv 3) (W9 (pv 2) af)))) (Xn (@s_ _ _ _ _ _ _ hX.own (@aU _ _ _ _ _ _ _ _ om (Xe (aP K) (by exact rfl) T.fz PyProof.Rows.Boot.«len» (W9 (pv 5) af)) aj (aW _)) (Xn (@aY _ _ _ _ (Xg K PySem.F.plainAttrs_list PySem.F.slot_list_extend PySem.F.type_list_extend u0 (pv 4) (W9 (pv 5) af)) (XD)) (Xn (Xq (@aU _ _ _ _ _ _ _ _ om (Xe (aP K) (by exact rfl) T.fz PyProof.Rows.Boot.«len» (W9 (pv 4) af)) (@eC _ _ _ _ bu (XD) (XC)) (aW _)) (Xl (@jE _ _ _ _ _ _ _ _ _ _ hX Xw (by exact rfl) lr.m lr.e (W9 (@nM _ _ _ _ _ _ (@fq _ _ _ _ _ dJ (@fq _ _ _ _ _ (@qO _ _ _ _ (@eC _ _ _ _ bu (XD) (XC))) (@fq _ _ _ _ _ dJ vP)))) af) (XC) (XD) (XD))) aS) (Xn (@aY _ _ _ _ (W' jn aR (W9 (pv 3) (W9 (pv 5) af))) (XD)) (Xl (W_ (5) jP.nd (W' gA aR (W9 (pv 3) (W9 (pv 2) af))))))))) (Xl (@aM _ _ _ _ (@Ds _ K _ _ _ _ _ _ _ _ _ _ _ lS (hr.mono (XC)) (pv 4) (by exact rfl) jO (XD) (XC) (XD) (XD)))))))),?_⟩;have XJ:c.xs.length*c.ys.length≤3000:=Nat.le_trans (Nat.mul_le_mul hx hy) (XC);have QJ:=Iu c [];refine⟨fun σ H1=>∃w as,σ=[some (.ref a),some (.ref b),some (.ref t),some (.ref w),none,none]∧au H H1∧H1 w=some (.lst (as.map V.ref))∧jG H1 as (mQ c []) c.xs.length c.ys.length∧as.Nodup∧w∉as∧∀a∈as,H a=none,?_,?_⟩
  ·exact⟨_,rfl,_,rfl,_,rfl,a,b,t, .cI,c,[],rfl,ha,hb,TF, .inl ⟨rfl,rfl⟩,XE,XB,XB,fun H1 w as s1 h1 _ h3 h4 h5 h6=>⟨w,as,rfl,s1,h1,h3,h4,h5,h6⟩⟩
  rintro σ H1 ⟨w,as,rfl,s1,sG,QK,LZ,nw,has⟩;refine⟨fun σ H2=>∃fl,σ=[some (.ref a),some (.ref b),some (.ref t),some (.ref w),some (.ref fl),none]∧au H1 H2∧H1 fl=none∧H2 fl=some (.lst []),⟨aC Xy,fun fl h=>⟨fl,rfl,au.upd h,h,ae⟩⟩,?_⟩;rintro σ H2 ⟨fl,rfl,s2,JF,MO⟩;have alloc:∀x∈as,∃xs,H1 x=some (.lst xs):=fun x hx=>by
   obtain⟨k,hk,ek⟩:=List.mem_iff_getElem.mp hx;exact⟨_,QK.row k x (by rw[List.getElem?_eq_getElem hk,ek])⟩
  have Sx:fl∉as:=fun z=>by
   obtain⟨xs,h⟩:=alloc fl z;rw[JF]at h;cases h
  have FN:w≠fl:=aA sG JF;have rd:∀f H3,(∀x∈as,∃xs,H3 x=some (.lst xs))→H3 w=some (.lst (as.map V.ref))→jG H3 as f c.xs.length c.ys.length→au H H3→∀done,Reach (mQ c []) c.out c.into c.least done f→∀(Q':VK)(E':XK),(∀H4 r,au H3 H4→H3 r=none→∀us ds,H4 r=some (.lst us)→cz (fun b=>H3 b=none) H4 aB us ds→((us=[]∧ds=[]∧Stop f c.out c.into c.least)∨(us≠[]∧∃W gs,nV f c.out c.into c.least W gs ds))→Q' (.ref r) H4)→p_ aQ aB [.ref w, .ref t] H3 Q' E':=fun f H3 al h3 T3 s3 done RC Q' E' k=>by
   refine⟨w,t,as,c,f,_,_,rfl,h3,T3,TF.keep s3,RC.Qd QJ,XJ,XB,XB,fun st H4 r s4 h4 h5=>k H4 r s4 h4 [] [] h5 .nil (.inl ⟨rfl,rfl,st⟩),fun W gs ds R QB H4 r us s4 h4 h5 FL=>k H4 r s4 h4 us ds h5 FL (.inr ⟨fun z=>QB ?_,W,gs,R⟩)⟩;have:=FL.1;rw[z]at this;have:ds=[]:=List.length_eq_zero_iff.mp (by simpa using this.symm);rw[←R.Fq,this];rfl
  have Sy:∀b o,b∉as→b≠fl→H1 b=some o→H2 b=some o:=fun b o _ _ e=>s2 b o e
  have Kq:=s1.trans s2;refine⟨fun σ H3=>∃md us ds,σ=[some (.ref a),some (.ref b),some (.ref t),some (.ref w),some (.ref fl),some (.ref md)]∧au H2 H3∧H2 md=none∧H3 md=some (.lst us)∧cz (fun b=>H2 b=none) H3 aB us ds∧((us=[]∧ds=[]∧Stop (mQ c []) c.out c.into c.least)∨(us≠[]∧∃W gs,nV (mQ c []) c.out c.into c.least W gs ds)),?_,?_⟩
  ·exact⟨_,rfl,_,rfl,rd _ H2 (fun x hx=>let ⟨xs,h⟩:=alloc x hx;⟨xs,s2 _ _ h⟩) (s2 _ _ sG) (QK.same s2) Kq [] .start _ _ fun H4 r s4 h4 us ds h5 FL z=>⟨r,us,ds,rfl,s4,h4,h5,FL,z⟩⟩
  rintro σ H3 ⟨md,us,ds,rfl,s3,FO,QL,VS,Z3⟩;refine⟨fun σ H5=>∃md ul es f,σ=[some (.ref a),some (.ref b),some (.ref t),some (.ref w),some (.ref fl),some (.ref md)]∧au H H5∧H5 fl=some (.lst ul)∧cz (fun b=>H2 b=none) H5 aB ul es∧Reach (mQ c []) c.out c.into c.least es f∧Stop f c.out c.into c.least∧es.length≤20,?_,?_⟩
  ·refine⟨fun mm σ H4=>∃md us ds ul es f,mm+es.length=20∧σ=[some (.ref a),some (.ref b),some (.ref t),some (.ref w),some (.ref fl),some (.ref md)]∧au H H4∧(∀b o,b∉as→b≠fl→H2 b=some o→H4 b=some o)∧jG H4 as f c.xs.length c.ys.length∧H4 fl=some (.lst ul)∧cz (fun b=>H2 b=none) H4 aB ul es∧Reach (mQ c []) c.out c.into c.least es f∧H2 md=none∧H4 md=some (.lst us)∧cz (fun b=>H2 b=none) H4 aB us ds∧((us=[]∧ds=[]∧Stop f c.out c.into c.least)∨(us≠[]∧∃W gs,nV f c.out c.into c.least W gs ds)),⟨20,md,us,ds,[],[],mQ c [],rfl,rfl,Kq.trans s3,fun b o _ _ e=>s3 b o e,(QK.same s2).same s3,s3 _ _ MO, .nil, .start,FO,QL,VS,Z3⟩,?_⟩;rintro mm σ H4 ⟨md,us,ds,ul,es,f1,WZ,rfl,sH,k4,T4,FP,FE,RC,FO,JG,FD,Z4⟩;have VT:∀x∈as,∃xs,H2 x=some (.lst xs):=fun x hx=>let ⟨xs,h⟩:=alloc x hx;⟨xs,s2 _ _ h⟩
   have P2:∀{b},H2 b=none→b∉as:=fun{b} h z=>by
    obtain⟨xs,h'⟩:=VT b z;rw[h]at h';cases h'
   have QM:∀{b},H2 b=none→b≠fl:=fun{b} h z=>by rw[z,MO]at h;cases h
   have Od:=FE.1;have W0:=FD.1;refine⟨_,rfl,md,_,rfl, .inl (.of JG),_,_,rfl,rfl,_,rfl,?_⟩;refine ba (fun hh=>?_) (fun hh=>?_)
   ·have hh:0<us.length:=by simpa using hh
    rcases Z4 with⟨z1,_,_⟩|⟨Sz,W,gs,R⟩
    ·rw[z1]at hh;simp at hh
    have NY:ds.length≤c.xs.length*c.ys.length:=by
     have:=R.told.wR (n:=c.xs.length) (m:=c.ys.length) fun g hg q hq=>by
      obtain⟨ps,wp,hm⟩:=(R.told.mem hg hq).on;exact kC (RC.Qd QJ) wp.1 hm
     rw[←R.Fq,List.length_map]at this;exact this
    refine⟨_,fun bF H' z=>z,?_⟩;have VU:md≠fl:=QM FO;refine⟨fun σ H5=>σ=[some (.ref a),some (.ref b),some (.ref t),some (.ref w),some (.ref fl),some (.ref md)]∧H5=upd H4 fl (.lst (ul++us)),⟨_,rfl, .inl ⟨rfl,_, .of FP⟩,_,rfl,fl,md,ul,us,rfl,rfl,FP,JG,aC Xz,rfl,rfl⟩,?_⟩;rintro σ H5 ⟨rfl,rfl⟩;have SA:au H (upd H4 fl (.lst (ul++us))):=sH.fD (s1.free JF);have SD:d6 H4 (upd H4 fl (.lst (ul++us))):=d6.lst FP;have VV:cz (fun b=>H2 b=none) (upd H4 fl (.lst (ul++us))) aB ul es:=FE.keep (fun b o hb e=>by rw[ai (QM hb)];exact e) SD fun _ h=>h
    have SE:cz (fun b=>H2 b=none) (upd H4 fl (.lst (ul++us))) aB us ds:=FD.keep (fun b o hb e=>by rw[ai (QM hb)];exact e) SD fun _ h=>h
    have QN:=RC.round R;refine⟨fun σ H6=>σ=[some (.ref a),some (.ref b),some (.ref t),some (.ref w),some (.ref fl),some (.ref md)]∧H6=upd H4 fl (.lst (ul++us))∧(es++ds).length≤20,?_,?_⟩
    ·refine⟨_,rfl,fl,_,rfl, .inl (.of ae),_,_,rfl,rfl,_,rfl,?_⟩;refine ba (fun h9=>?_) (fun h9=>?_)
     ·have h9:20<(ul++us).length:=by
       have:(20:Int)<((ul++us).length:Nat):=by simpa using h9
       omega
      have:=q2 _ _ QN (by rw[List.length_append]at h9⊢;omega) _ SA;have z:(20:Int).natAbs.log2<1920∧(Str.ofString (toString (20:Int))).length≤6:=⟨XC,by decide+kernel⟩
      have w1:(Str.ofString "there are at most ").length=18:=by decide+kernel
      have w2:(Str.ofString " findings between two books").length=27:=by decide+kernel
      have w3:=nN;refine⟨_,rfl,aC ?_, .inr ⟨20,rfl,z.1,_,rfl,aC ?_,_,rfl,aC ?_,aC ?_,iP,this⟩⟩;all_goals (simp only[len_app];omega)
     ·have h9:¬20<(ul++us).length:=by
       have:¬(20:Int)<((ul++us).length:Nat):=by simpa using h9
       omega
      exact⟨rfl,rfl,by rw[List.length_append]at h9⊢;omega⟩
    rintro σ H6 ⟨rfl,rfl,hle⟩;refine⟨fun σ H7=>σ=[some (.ref a),some (.ref b),some (.ref t),some (.ref w),some (.ref fl),some (.ref md)]∧(∀b o,b∉as→upd H4 fl (.lst (ul++us)) b=some o→H7 b=some o)∧d6 (upd H4 fl (.lst (ul++us))) H7∧jG H7 as (mz f1 gs.flatten) c.xs.length c.ys.length,?_,?_⟩
    ·refine⟨_,rfl,_,rfl,w,md,as,us,ds,f1,_,_,rfl,by rw[ai FN];exact k4 _ _ nw FN (s2 _ _ sG),LZ,nw,⟨T4.len,fun i x hx=>by rw[ai (fun z=>Sx (by rw[←z];exact Xj hx))];exact T4.row i x hx⟩,by rw[ai VU];exact JG,P2 FO,SE.keep (fun _ _ _ h=>h) (fun _ _ h=>h) (fun _ h=>P2 h),fun d hd q hq=>?_,fun H7 k7 t7 T7=>⟨rfl,k7,t7,by rw[←R.Fq];exact T7⟩⟩;have hg:d.pairs∈gs:=by rw[←R.Fq];exact List.mem_map.mpr ⟨d,hd,rfl⟩
     obtain⟨ps,wp,hm⟩:=(R.told.mem hg hq).on;exact kC (RC.Qd QJ) wp.1 hm
    rintro σ H7 ⟨rfl,k7,t7,T7⟩;have SF:au H H7:=fun b o e=>k7 b o (fun z=>by rw[has b z]at e;cases e) (SA b o e)
    have SG:∀x∈as,∃xs,H7 x=some (.lst xs):=fun x hx=>by
     obtain⟨k,hk,ek⟩:=List.mem_iff_getElem.mp hx;exact⟨_,T7.row k x (by rw[List.getElem?_eq_getElem hk,ek])⟩
    have w7:H7 w=some (.lst (as.map V.ref)):=k7 w _ nw (by rw[ai FN];exact k4 _ _ nw FN (s2 _ _ sG));have F7:cz (fun b=>H2 b=none) H7 aB (ul++us) (es++ds):=(VV.append SE).keep (fun b o hb e=>k7 b o (P2 hb) e) t7 fun _ h=>h
    have SH:H7 fl=some (.lst (ul++us)):=k7 fl _ Sx ae;refine⟨_,rfl,_,rfl,rd _ H7 SG w7 T7 SF _ QN _ _ fun H8 r s8 h8 VW VX VY VZ Z8=>?_⟩;have SI:∀b,H7 b=none→H2 b=none:=fun b h=>by
     cases e:H2 b with
     |none=>rfl
     |some o=>
      by_cases QO:b∈as
      ·obtain⟨xs,h'⟩:=SG b QO;rw[h]at h';cases h'
      ·by_cases QP:b=fl
       ·rw[QP,SH]at h;cases h
       ·rw[k7 b o QO (by rw[ai QP];exact k4 b o QO QP e)]at h;cases h
    refine⟨20-(es++ds).length,?_,r,VW,VX,ul++us,es++ds,_,XB,rfl,SF.trans s8,fun b o h1 h2 e=>s8 b o (k7 b o h1 (by rw[ai h2];exact k4 b o h1 h2 e)),T7.same s8,s8 _ _ SH,F7.keep (fun b o _ e=>s8 b o e) (d6.same s8) fun _ h=>h,QN,SI r h8,VY,VZ.keep (fun _ _ _ h=>h) (fun _ _ h=>h) fun b h=>SI b h,Z8⟩;rw[List.length_append]at hle⊢;omega
   ·have hh:us.length=0:=by
     have:¬(0:Int)<(us.length:Nat):=by simpa using hh
     omega
    rcases Z4 with⟨_,_,z3⟩|⟨Sz,_⟩
    ·exact⟨md,ul,es,f1,rfl,sH,FP,FE,RC,z3,XB⟩
    ·exact absurd (List.length_eq_zero_iff.mp hh) Sz
  rintro σ H5 ⟨md,ul,es,f1,rfl,sH,QR,FE,RC,ST,hle⟩;have Od:=FE.1;have AP:=RC.apart;have MP:∀d∈es,lH d.pairs∈d.pairs:=fun d hd=>by
   cases e:d.pairs with
   |nil=>exact absurd e (AP.sV d hd).2
   |cons a r=>simp[lH]
  refine⟨_,rfl,fl,ul,es.map (fun d=>(-d.worth,lH d.pairs)),rfl, .of QR,by rw[List.length_map];omega,?_,XB,fun i v H6 hv s6=>?_,fun p H6 D hp hs s6 hD MF=>?_⟩
  ·refine List.pairwise_map.mpr (List.Pairwise.imp_of_mem (fun{x y} hx hy XJ e=>?_) AP.ap);have:=(Prod.mk.inj e).2;exact XJ _ (MP x hx) (by rw[this];exact MP y hy)
  ·have hi:i<es.length:=by rw[←Od];exact(Xc hv).1
   have ei:es[i]?=some es[i]:=by simp[hi]
   have jH:es[i]∈es:=List.getElem_mem hi;have eg:(es.map fun d=>(-d.worth,lH d.pairs)).getD i (0,(0,0))=(-es[i].worth,lH es[i].pairs):=by simp[hi]
   rw[eg];generalize es[i]=d at ei jH;obtain⟨x,dy,wy,oq,pr,rT,j4,e1,F⟩:=FE.2 i d ei;rw[hv]at e1;cases e1;exact⟨x,dy,wy,oq,pr,d.worth,j4,d.pairs,rfl,s6 _ _ F.ob,s6 _ _ F.hp,F.pp.same s6,(AP.sV d jH).2,fun H7 k t s7 hk ht=>⟨s7,k,t,rfl,hk,ht⟩⟩
  ·have rO:p.toList.Perm (List.range es.length):=by rw[←Od];exact hp
   have JH:∀i∈p.toList,i<es.length:=fun i hi=>by simpa using rO.mem_iff.mp hi
   have dflt:Fd:=⟨0,[],[],[]⟩
   refine q1 (p.toList.map fun i=>es.getD i dflt) ⟨⟨es,f1,RC,ST,?_⟩,?_,?_⟩ _ D _ ((sH.trans s6).fD (sH.free hD)) (sH.free hD) ae ?_
   ·have e1:(List.range es.length).map (fun i=>es.getD i dflt)=es:=by
     apply List.ext_getElem
     ·simp
     ·intro i h1 h2;simp[h2]
    have:=rO.map fun i=>es.getD i dflt
    rw[e1]at this;exact this
   ·rw[List.length_map,rO.length_eq,List.length_range];exact hle
   ·rw[List.pairwise_map,List.pairwise_iff_getElem];intro i j hi hj uk;have hsz:p.size=es.length:=by have:=rO.length_eq;simpa using this
    have:=hs i j uk (by rw[Od,←hsz];simpa using hj);have g1:gd p i=p.toList[i]:=by rw[CV];simp at hi;simp[hi]
    have g2:gd p j=p.toList[j]:=by rw[CV];simp at hj;simp[hj]
    rw[g1,g2]at this;have l1:=JH _ (List.getElem_mem hi);have l2:=JH _ (List.getElem_mem hj);generalize p.toList[i]=x at this l1;generalize p.toList[j]=y at this l2;unfold kl X7 at this;unfold Y1;simp only[List.getD_eq_getElem?_getD,List.getElem?_map,List.getElem?_eq_getElem l1,List.getElem?_eq_getElem l2,Option.map_some,Option.getD_some]at this⊢;by_cases ew:es[x].worth=es[y].worth
    ·rw[Xp ew];rw[Xp (by rw[ew])]at this;exact this
    ·rw[Xm ew];rw[Xm (fun z=>ew Xz)]at this;simp at this⊢;omega
   ·refine⟨XE,fun k d hk=>?_⟩;rw[List.getElem?_map]at hk;cases e:p.toList[k]? with
    |none=>rw[e]at hk;cases hk
    |some i=>
     rw[e]at hk;have hi:=JH i (Xj e);have hd:es.getD i dflt=d:=by simpa using hk
     have ei:es[i]?=some d:=by rw[←hd];simp[hi]
     obtain⟨x,dy,wy,oq,pr,rT,j4,e1,F⟩:=FE.2 i d ei;have nD:∀{b o},H5 b=some o→b≠D:=fun h z=>by rw[z,hD]at h;cases h
     refine⟨x,dy,wy,oq,pr,rT,j4,?_,F.ob|>fun h=>⟨by rw[ai (nD h)];exact s6 _ _ h,by rw[ai (nD F.hw)];exact s6 _ _ F.hw,(F.pw.same s6).same (au.upd MF),by rw[ai (nD F.hr)];exact s6 _ _ F.hr,by rw[ai (nD F.hp)];exact s6 _ _ F.hp,(F.pp.same s6).same (au.upd MF),Kq.free F.fa,Kq.free F.fw,Kq.free F.fr,Kq.free F.fp⟩⟩;rw[List.getElem?_map,e];show some (ul.getD i .cI)=_;simp[e1]
theorem ZP:aJ ["_law_script","_law_k"] ["_law_script","_law_k"] (aq rn):=⟨rfl,rfl,rfl,by decide+kernel,rfl,by decide+kernel,by decide+kernel⟩
include T in
theorem Z_{f:Addr}{fd:FuncData}(F:lD K "_law_at" "_law_at" rn f fd):a8 P w K mg base (dq P w) true 1 f fd ["_law_script","_law_k"] (Cr K):=by
 refine F.iW ZP XA (fun cj A outer s H vs Q E hr h hX=>?_)
 ·obtain⟨a,ns,k,rfl,_⟩:=h;rfl
 ·obtain⟨a,ns,k,rfl,hS,h0,q⟩:=h;refine⟨_,(Xk (Xq (@aU _ _ _ _ _ _ _ _ rM (pv 1) (Xe (aP K) (by exact rfl) T.fz PyProof.Rows.Boot.«len» (W9 (pv 0) af)) (aW _)) (Xl (@aM _ _ _ _ (Xb (ar K) (pv 0) (pv 1)))) aS) (Xl (@aM _ _ _ _ aj))),?_⟩;refine⟨_,rfl,_,rfl,a,_,rfl, .inl hS,_,_,rfl,rfl,_,rfl,?_⟩;refine ba (fun h=>?_) (fun h=>?_)
  ·have h:k<((ns.map V.int).length:Int):=by simpa using h
   rw[List.length_map]at h;exact⟨_,rfl,_,rfl,a,_,k,_,rfl,rfl,hS,EO h0 h,q⟩
  ·have h:¬k<((ns.map V.int).length:Int):=by simpa using h
   rw[List.length_map]at h;rw[cell_out h0 h]at q;exact q
theorem uG:aJ ["_law_found"] ["_law_found"] (aq lM):=⟨rfl,rfl,rfl,by decide+kernel,rfl,by decide+kernel,by decide+kernel⟩
include T in
theorem uH{f:Addr}{fd:FuncData}(F:lD K "_law_whole" "_law_whole" lM f fd):a8 P w K mg base (dq P w) true 1 f fd ["_law_found"] tL:=by
 refine F.iW uG XA (fun cj A outer s H vs Q E hr h hX=>?_)
 ·obtain⟨i,rfl,_⟩:=h;rfl
 ·obtain⟨i,rfl,q⟩:=h;refine⟨_,(Xl (@aM _ _ _ _ (@vD _ _ _ _ _ _ _ (Xe (k8 K) (by exact rfl) T.gi PyProof.Rows.Boot.«isinstance» (W9 (pv 0) (W9 (@pF _ _ (.ty "int") _ _ Xw T.YC PyProof.Rows.Boot.«int» Xw (XC) (XC)) af))) (@vC _ _ _ _ _ (@Hq _ _ _ _ (Xe (k8 K) (by exact rfl) T.gi PyProof.Rows.Boot.«isinstance» (W9 (pv 0) (W9 (@pF _ _ (.ty "bool") _ _ Xw T.Ih PyProof.Rows.Boot.«bool» Xw (XC) (XC)) af)))))))),?_⟩;refine⟨_,rfl,_,_,_,true,_,rfl,rfl, .int i,rfl,_,rfl,?_⟩;refine mL ?_;exact⟨_,rfl,_,_,_,false,_,rfl,rfl, .int i,by kernel_rfl,_,rfl,q⟩
theorem bx:aJ ["_law_cell","_law_other","_law_many","_law_letters","_law_stem","_law_rest","_law_k","_law_size","_law_found","_law_spot","_law_sign"] ["_law_cell","_law_other","_law_many"] (aq mW):=⟨rfl,rfl,rfl,by decide+kernel,rfl,by decide+kernel,by decide+kernel⟩
include T in
theorem wI{f:Addr}{fd:FuncData}(F:lD K "_law_bank" "_law_bank" mW f fd):a8 P w K mg base (dq P w) true 1 f fd ["_law_cell","_law_other","_law_many"] v7:=by
 refine F.iW bx XA (fun cj A outer s H vs Q E hr h hX=>?_)
 ·obtain⟨cell,other,many,rfl,_⟩:=h;rfl
 ·obtain⟨cell,other,many,rfl,QS,hm,q⟩:=h;have W4:=ES;have SJ:(0:Int)<26:=XC;have SK:(0:Int)<12:=XC;refine⟨_,(Xk (W_ (3) bx.nd dJ) (Xk (W_ (4) bx.nd dJ) (Xk (W_ (5) bx.nd (Xf dN (pv 0) aj)) (Xk (@b_ _ _ _ _ _ _ _ _ hX.own Xw (@f7 _ _ _ _ _ _ Xw T.iD (W9 aj af) (XD)) (Xa (6) bx.nd (Or.inl rfl)) (Xk (W_ (4) bx.nd (Xf oI (pv 4) (Xb B9 (pv 3) (Xf bK (pv 5) aj)))) (Xl (W_ (5) bx.nd (Xf dN (pv 5) aj)))) (by intro _;rfl)) (Xk (W_ (7) bx.nd (Xf bA aj (Xf bK (Xf dN (pv 0) aj) aj))) (Xk (W_ (8) bx.nd (@bR _ _ _ _ af)) (Xk (@b_ _ _ _ _ _ _ _ _ hX.own Xw (@f7 _ _ _ _ _ _ Xw T.iD (W9 (pv 2) af) (XD)) (Xa (6) bx.nd (Or.inl rfl)) (Xl (Xq (@aU _ _ _ _ _ _ _ _ jA (Xf bK (pv 0) aj) aj (aW _)) (Xl (@aY _ _ _ _ (Xg K PySem.F.plainAttrs_list PySem.F.slot_list_append PySem.F.type_list_append bJ (pv 8) (W9 (@pK _ _ _ _ _ _ _ _ _ _ YL (pv 4) vI (@pJ _ _ _ (Xf bA aj (Xf bK (Xf bA (pv 7) (pv 6)) aj)))) af)) (XD))) (Xk (W_ (9) bx.nd (Xf bK (pv 1) (pv 7))) (Xk (W_ (10) bx.nd (Xb B9 (pv 3) (Xf bK (Xf bA (Xf dN (pv 1) aj) (pv 6)) aj))) (Xl (@aY _ _ _ _ (Xg K PySem.F.plainAttrs_list PySem.F.slot_list_append PySem.F.type_list_append bJ (pv 8) (W9 (Xf oI (Xf oI (@pK _ _ _ _ _ _ _ _ _ _ YL (pv 4) vI (@pJ _ _ _ (pv 9))) (pv 10)) (@pK _ _ _ _ _ _ _ _ _ _ YL (pv 4) (@pJ _ _ _ (Xf bA (pv 9) aj)) (@pJ _ _ _ (pv 7)))) af)) (XD))))))) (by intro _;rfl)) (Xl (@aM _ _ _ _ (pv 8)))))))))),?_⟩;refine⟨_,rfl,_,_,rfl,rfl,⟨XC,XC⟩,?_⟩;refine⟨12,rfl,XC,XC,?_⟩;refine g_ (fun i σ H'=>H'=H∧∃(bL:Str)(rest:Int)(kv:Option V),bL.length=i∧lows bL∧σ=[some (.int cell),some (.int other),some (.int many),some (.str LF),some (.str bL),some (.int rest),kv,none,none,none,none]) ⟨rfl,_,_,_,(by decide+kernel),(show(Str.ofString "").cps.toList.all low=true by decide+kernel),rfl⟩ ?_ ?_
  ·rintro i σ H' hi ⟨rfl,bL,rest,kv,hl,JI,rfl⟩;have hi:i<12:=hi;refine⟨_,rfl,_,rfl,_,rfl,_,_,rfl,rfl,SJ,_,_,_,rfl,rfl,aC Xz,Cz,_,_,rfl,rfl,aC (show bL.length+1≤100000 by omega),?_⟩;refine⟨_,rfl,_,_,rfl,rfl,⟨XC,XC⟩,rfl,_,_,_,?_,?_,rfl⟩
   ·rw[len_app,hl];rfl
   ·have h1:bL.cps.toList.all low=true:=JI;have h2:=Z0 rest;unfold lows;rw[pW,List.all_append,h1];simp[h2]
  ·rintro σ H' ⟨rfl,bL,rest,kv,hl,JI,rfl⟩;have hl:bL.length=12:=hl;refine⟨_,rfl,_,_,rfl,rfl,⟨XC,XC⟩,_,_,rfl,rfl,SK,_,_,rfl,rfl,?_⟩;have z0:1≤1+cell/2%12∧1+cell/2%12≤12:=XB;refine⟨aC Xy,fun D hD=>?_⟩;refine⟨_,rfl,many,rfl,XB,XB,?_⟩;refine g_ (fun i σ H2=>(∃u v w,σ=[some (.int cell),some (.int other),some (.int many),some (.str LF),some (.str bL),some (.int rest),u,some (.int (1+cell/2%12)),some (.ref D),v,w])∧H2 D=some (.lst (((List.range i).map (k_ bL cell other)).map V.str))∧au H' H2) ⟨⟨_,_,_,rfl⟩,ae,au.upd hD⟩ ?_ ?_
   ·rintro i σ H2 hi ⟨⟨u,v,w,rfl⟩,m7,s2⟩;have hi:i<12:=XB;have nx:∀z,z=k_ bL cell other i→(List.range i).map (fun k=>V.str (k_ bL cell other k))++[V.str z]=((List.range (i+1)).map (k_ bL cell other)).map V.str:=fun z e=>by
     rw[List.range_succ,e];simp
    have iM:(((List.range i).map (k_ bL cell other)).map V.str).length<sizeLine:=a_ (by simp;omega);refine⟨_,rfl,_,_,rfl,rfl,(show(0:Int)<2 by decide),rfl,_,rfl,?_⟩;refine ba (fun h=>?_) (fun h=>?_)
    ·have h:cell%2=1:=by simpa using h
     refine⟨_,rfl, .inl ⟨rfl,_, .of m7⟩,_,rfl,_,rfl,_,rfl,_,_,rfl,rfl,_,_,rfl,rfl,SK,_,_,rfl,rfl,_,rfl,bL,rfl,aC Xz,D,_,_,rfl,rfl,m7,iM,⟨_,_,_,rfl⟩,?_,s2.fD hD⟩;rw[ae];have:=nx (Txt.slice bL none (some (1+(1+cell/2%12+(0+(i:Int)))%12))) (by simp[k_,h]);rw[←this];simp
    ·have h:¬cell%2=1:=by simpa using h
     have z1:0≤other%(1+cell/2%12)∧other%(1+cell/2%12)<1+cell/2%12:=⟨Int.emod_nonneg _ Xz,Int.emod_lt_of_pos _ Xz⟩
     have b1:=va bL none (some (other%(1+cell/2%12)));have b2:=va bL (some (other%(1+cell/2%12)+1)) (some (1+cell/2%12));refine⟨_,rfl,_,rfl,_,_,rfl,rfl,(show(0:Int)<1+cell/2%12 by omega),?_⟩;refine⟨_,rfl,_,rfl,_,_,rfl,rfl,⟨XC,XC⟩,_,rfl,_,_,rfl,rfl,_,_,rfl,rfl,SJ,_,_,_,rfl,rfl,aC Xz,Cz,?_⟩;refine⟨_,rfl, .inl ⟨rfl,_, .of m7⟩,_,rfl,_,rfl,_,rfl,bL,rfl,aC Xz,_,rfl,_,_,rfl,rfl,aC (show(Txt.slice bL none (some (other%(1+cell/2%12)))).length+1≤100000 by omega),_,rfl,_,rfl,_,_,rfl,rfl,_,rfl,_,rfl,_,rfl,bL,rfl,aC Xz,_,_,rfl,rfl,?_,D,_,_,rfl,rfl,m7,iM,⟨_,_,_,rfl⟩,?_,s2.fD hD⟩
     ·rw[len_app];exact aC (show(Txt.slice bL none (some (other%(1+cell/2%12)))).length+1+_≤100000 by omega)
     rw[ae];have:=nx (Txt.slice bL none (some (other%(1+cell/2%12)))++⟨#[97+((other/12+(0+(i:Int)))%26).toNat]⟩++Txt.slice bL (some (other%(1+cell/2%12)+1)) (some (1+cell/2%12))) (by simp[k_,h]);rw[←this];simp
   ·rintro σ H2 ⟨⟨u,v,w,rfl⟩,m7,s2⟩;refine⟨_,rfl,q H2 D _ s2 hD m7 Xy ?_ (Zv hl cell other Xz)⟩;intro z hz;obtain⟨k,_,rfl⟩:=List.mem_map.mp hz;exact CC hl JI cell other k
variable(a7:cc P w K mg base true 1 "_law_at" ["_law_script","_law_k"] (Cr K))
theorem gB:aJ ["_law_script","_law_cell","_law_spot","_law_many","_law_bank_here","_law_book_here","_law_rest","_law_k"] ["_law_script","_law_cell","_law_spot","_law_many","_law_bank_here"] (aq mY):=⟨rfl,rfl,rfl,by decide+kernel,rfl,by decide+kernel,by decide+kernel⟩
include T a7 in
theorem wJ{f:Addr}{fd:FuncData}(F:lD K "_law_book" "_law_book" mY f fd):a8 P w K mg base (dq P w) true 2 f fd ["_law_script","_law_cell","_law_spot","_law_many","_law_bank_here"] (v9 K):=by
 refine F.iW gB XA (fun cj A outer s H vs Q E hr h hX=>?_)
 ·obtain⟨a,b,ns,zs,c,p,m,rfl,_⟩:=h;rfl
 ·obtain⟨a,b,ns,zs,c,p,m,rfl,hS,hb,⟨V1,LC⟩,V4,QS,As,q⟩:=h;refine⟨_,(Xk (W_ (5) gB.nd (@bR _ _ _ _ af)) (Xk (W_ (6) gB.nd (pv 1)) (Xk (@b_ _ _ _ _ _ _ _ _ hX.own Xw (@f7 _ _ _ _ _ _ Xw T.iD (W9 (pv 3) af) (XD)) (Xa (7) gB.nd (Or.inl rfl)) (Xk (@aY _ _ _ _ (Xg K PySem.F.plainAttrs_list PySem.F.slot_list_append PySem.F.type_list_append bJ (pv 5) (W9 (Xb (ar K) (pv 4) (Xf bK (Xf bA (Xf bA (pv 6) (pv 7)) (W' a7 aR (W9 (pv 0) (W9 (Xf bA (pv 2) (pv 7)) af)))) (Xe (aP K) (by exact rfl) T.fz PyProof.Rows.Boot.«len» (W9 (pv 4) af)))) af)) (XD)) (Xl (W_ (6) gB.nd (Xf dN (pv 6) (Xe (aP K) (by exact rfl) T.fz PyProof.Rows.Boot.«len» (W9 (pv 4) af)))))) (by intro _;rfl)) (Xl (@aM _ _ _ _ (pv 5)))))),?_⟩;refine⟨aC Xy,fun l hl=>?_⟩;refine⟨_,rfl,?_⟩;refine⟨_,rfl,m,rfl,XB,XB,?_⟩;refine g_ (fun i σ H'=>(∃r u,σ=[some (.ref a),some (.int c),some (.int p),some (.int m),some (.ref b),some (.ref l),some (.int r),u])∧au H H'∧∃ws:List Str,H' l=some (.lst (ws.map V.str))∧ws.length=i∧∀w∈ws,w∈zs) ⟨⟨_,_,rfl⟩,au.upd hl,[],ae,rfl,fun w hw=>by cases hw⟩ ?_ ?_
  ·rintro i σ H' hi ⟨⟨r,u,rfl⟩,s1,ws,mB,sG,JJ⟩;have hi:i<m.toNat:=hi;have kF:=s1 _ _ hb;have z0:0≤(r+(0+(i:Int))+cell ns (p+(0+(i:Int))))%(zs.length:Int):=Int.emod_nonneg _ Xz;have z1:(r+(0+(i:Int))+cell ns (p+(0+(i:Int))))%(zs.length:Int)<(zs.length:Int):=Int.emod_lt_of_pos _ Xz;obtain⟨w,hw,FQ⟩:=YS zs z0 z1;have el:(zs.map V.str).length=zs.length:=List.length_map ..;refine⟨_,rfl, .inl ⟨rfl,_, .of mB⟩,_,rfl,_,rfl,_,rfl,_,_,rfl,rfl,_,rfl,_,rfl,_,rfl,_,_,rfl,rfl,a,ns,_,rfl,s1.seq hS,XB,_,_,rfl,rfl,_,rfl,b,_,rfl, .inl (.of kF),_,_,rfl,rfl,(by rw[el];show(0:Int)<_;omega),b,_,_,_,rfl,rfl, .of kF,(by rw[el];exact FQ),l,_,_,rfl,rfl,mB,a_ (by rw[List.length_map];omega),?_⟩;have FA:b≠l:=aA hb hl;have wC:upd H' l (.lst (ws.map V.str++[.str w])) b=some (.lst (zs.map V.str)):=by rw[ai FA];exact kF
   refine⟨_,rfl,_,rfl,b,_,rfl, .inl (.of wC),_,_,rfl,rfl,⟨by rw[el];omega,by rw[el];omega⟩,⟨_,_,rfl⟩,s1.fD hl,ws++[w],?_,by simp[sG],?_⟩
   ·rw[ae];simp
   ·intro x hx;rcases List.mem_append.mp hx with hx|hx
    ·exact JJ x hx
    ·have:x=w:=by simpa using hx
     rw[this];exact hw
  ·rintro σ H' ⟨⟨r,u,rfl⟩,s1,ws,mB,sG,JJ⟩;exact⟨_,rfl,q H' l ws s1 hl mB sG JJ⟩
theorem bZ:aJ ["_law_script","_law_cell","_law_spot","_law_many","_law_first","_law_bank_here","_law_book_here","_law_rest","_law_place","_law_k","_law_pick"] ["_law_script","_law_cell","_law_spot","_law_many","_law_first","_law_bank_here"] (aq jj):=⟨rfl,rfl,rfl,by decide+kernel,rfl,by decide+kernel,by decide+kernel⟩
include T a7 in
theorem uI{f:Addr}{fd:FuncData}(F:lD K "_law_quote" "_law_quote" jj f fd):a8 P w K mg base (dq P w) true 2 f fd ["_law_script","_law_cell","_law_spot","_law_many","_law_first","_law_bank_here"] (tO K):=by
 refine F.iW bZ XA (fun cj A outer s H vs Q E hr h hX=>?_)
 ·obtain⟨a,b,x,ns,zs,JK,c,p,m,rfl,_⟩:=h;rfl
 ·obtain⟨a,b,x,ns,zs,JK,c,p,m,rfl,hS,hb,hx,⟨V1,LC⟩,Ap,QT,V4,QS,As,q⟩:=h;have hu:=hr.units;have Mu:(A.deeper (PyProof.Rows.envOfC "_law_quote" (aq jj) s.heap.objs.size f cj)).units<cLine:=XB;have c8:(0:Int)<8:=XC;refine⟨_,(Xk (W_ (6) bZ.nd (@bR _ _ _ _ af)) (Xk (W_ (7) bZ.nd (pv 1)) (Xk (W_ (8) bZ.nd aj) (Xk (@b_ _ _ _ _ _ _ _ _ hX.own Xw (@f7 _ _ _ _ _ _ Xw T.iD (W9 (pv 3) af) (XD)) (Xa (9) bZ.nd (Or.inl rfl)) (Xk (W_ (10) bZ.nd (Xf bA (pv 7) (W' a7 aR (W9 (pv 0) (W9 (Xf bA (pv 2) (pv 9)) af))))) (Xk (W_ (7) bZ.nd (Xf dN (pv 7) (Xf tm aj (Xe (aP K) (by exact rfl) T.fz PyProof.Rows.Boot.«len» (W9 (pv 5) af))))) (Xl (Xq (@PW.pt _ _ _ (@pw_and _ _ _ _ _ _ _ (@aU _ _ _ _ _ _ _ _ rM (Xf bK (pv 10) aj) aj (aW _)) (@pw_and1 _ _ _ _ (@aU _ _ _ _ _ _ _ _ (Za K Mu) (pv 4) (@bR _ _ _ _ af) (aW _))))) (Xk (W_ (8) bZ.nd (Xf bA (pv 8) (@hG _ _ _ _ _ _ _ _ _ qK Xw T.YC PyProof.Rows.Boot.«int» (W9 (@j7 _ _ _ _ _ _ _ _ jA (Xf bK (pv 10) aj) aj (aW _)) af) (XC) (XC) (XD) (XD)))) (Xk (@aY _ _ _ _ (Xg K PySem.F.plainAttrs_list PySem.F.slot_list_append PySem.F.type_list_append bJ (pv 6) (W9 (Xb (ar K) (pv 4) (Xf bK (pv 8) (Xe (aP K) (by exact rfl) T.fz PyProof.Rows.Boot.«len» (W9 (pv 4) af)))) af)) (XD)) (Xl (W_ (8) bZ.nd (Xf bA (pv 8) aj))))) (Xl (@aY _ _ _ _ (Xg K PySem.F.plainAttrs_list PySem.F.slot_list_append PySem.F.type_list_append bJ (pv 6) (W9 (Xb (ar K) (pv 5) (Xf bK (Xf dN (pv 10) aj) (Xe (aP K) (by exact rfl) T.fz PyProof.Rows.Boot.«len» (W9 (pv 5) af)))) af)) (XD))))))) (by intro _;rfl)) (Xl (@aM _ _ _ _ (pv 6))))))),?_⟩;refine⟨aC Xy,fun l hl=>?_⟩;refine⟨_,rfl,?_⟩;refine⟨_,rfl,m,rfl,XB,XB,?_⟩;refine g_ (fun i σ H'=>(∃(r pl:Int)(u1 u2:Option V),σ=[some (.ref a),some (.int c),some (.int p),some (.int m),some (.ref x),some (.ref b),some (.ref l),some (.int r),some (.int pl),u1,u2])∧au H H'∧∃ws:List Str,H' l=some (.lst (ws.map V.str))∧ws.length=i∧∀w∈ws,w∈zs) ⟨⟨_,_,_,_,rfl⟩,au.upd hl,[],ae,rfl,fun w hw=>by cases hw⟩ ?_ ?_
  ·rintro i σ H' hi ⟨⟨r,pl,u1,u2,rfl⟩,s1,ws,mB,sG,JJ⟩;have hi:i<m.toNat:=hi;have kF:=s1 _ _ hb;have n8:=s1 _ _ hx;have el:(zs.map V.str).length=zs.length:=List.length_map ..;have SM:(JK.map V.str).length=JK.length:=List.length_map ..;have iM:(ws.map V.str).length<sizeLine:=a_ (by rw[List.length_map];omega);refine⟨_,rfl,_,rfl,_,rfl,_,rfl,_,_,rfl,rfl,a,ns,_,rfl,s1.seq hS,XB,_,_,rfl,rfl,?_⟩;refine⟨_,rfl,_,rfl,b,_,rfl, .inl (.of kF),_,_,rfl,rfl, .inl (XC),_,_,rfl,rfl,⟨by rw[el];omega,by rw[el];omega⟩,?_⟩;have fin:∀H3 (w:Str),au H H3→H3 l=some (.lst (ws.map V.str))→w∈zs→au H (upd H3 l (.lst (ws.map V.str++[.str w])))∧∃QU:List Str,upd H3 l (.lst (ws.map V.str++[.str w])) l=some (.lst (QU.map V.str))∧QU.length=i+1∧∀w∈QU,w∈zs:=fun H3 w s3 h3 hw=>by
    refine⟨s3.fD hl,ws++[w],by rw[ae];simp,by simp[sG],fun x hx=>?_⟩;rcases List.mem_append.mp hx with hx|hx
    ·exact JJ x hx
    ·have:x=w:=by simpa using hx
     rw[this];exact hw
   have other:∀H3,au H H3→H3 l=some (.lst (ws.map V.str))→H3 b=some (.lst (zs.map V.str))→∃w,w∈zs∧sP (zs.map V.str) ((r+cell ns (p+(0+(i:Int))))/8%((zs.map V.str).length:Int))=some (.str w):=fun H3 _ _ _=>by
    rw[el];exact YS zs (Int.emod_nonneg _ Xz) (Int.emod_lt_of_pos _ Xz)
   refine⟨_,rfl,_,_,rfl,rfl,c8,_,_,rfl,rfl,_,rfl,?_⟩;refine ba (fun h1=>?_) (fun h1=>?_)
   ·refine⟨_,rfl,aC Xy,fun pn QV=>⟨x,pn,_,rfl,rfl, .of (au.upd QV _ _ n8), .of ae,_,rfl,?_⟩⟩;have s2:au H (upd H' pn (.lst [])):=s1.trans (au.upd QV);have uj:=au.upd (o:= .lst []) QV _ _ mB;refine ba (fun h2=>?_) (fun h2=>?_)
    ·have f9:JK≠[]:=by simpa using h2
     have V5:0<JK.length:=List.length_pos_iff.mpr f9;obtain⟨w,hw,FQ⟩:=YS JK (i:=(pl+(if decide ((r+cell ns (p+(0+(i:Int))))%8=4)=true then 1 else 0))%((JK.length:Nat):Int)) (Int.emod_nonneg _ Xz) (Int.emod_lt_of_pos _ Xz);obtain⟨a1,a2⟩:=fin _ w s2 uj (QT w hw);refine⟨_,rfl,_,rfl,_,_,rfl,rfl,c8,rfl, .inr ⟨_,rfl,_,_,rfl,rfl,?_⟩⟩;refine⟨_,rfl, .inl ⟨rfl,_, .of uj⟩,_,rfl,_,rfl,_,rfl,x,_,rfl, .inl (.of (s2 _ _ hx)),_,_,rfl,rfl,(by rw[SM];show(0:Int)<_;omega),x,_,_,_,rfl,rfl, .of (s2 _ _ hx),by rw[SM];simpa[beq_iff_eq,vL]using FQ,l,_,_,rfl,rfl,uj,iM,?_⟩;exact⟨_,rfl,_,_,rfl,rfl,⟨_,_,_,_,rfl⟩,a1,a2⟩
    ·obtain⟨w,hw,FQ⟩:=other _ s2 uj (s2 _ _ hb);obtain⟨a1,a2⟩:=fin _ w s2 uj hw;refine⟨_,rfl, .inl ⟨rfl,_, .of uj⟩,_,rfl,_,rfl,_,_,rfl,rfl,⟨XC,XC⟩,_,rfl,b,_,rfl, .inl (.of (s2 _ _ hb)),_,_,rfl,rfl,(by rw[el];show(0:Int)<_;omega),b,_,_,_,rfl,rfl, .of (s2 _ _ hb),FQ,l,_,_,rfl,rfl,uj,iM,⟨_,_,_,_,rfl⟩,a1,a2⟩
   ·refine jD ?_;obtain⟨w,hw,FQ⟩:=other _ s1 mB kF;obtain⟨a1,a2⟩:=fin _ w s1 mB hw;refine⟨_,rfl, .inl ⟨rfl,_, .of mB⟩,_,rfl,_,rfl,_,_,rfl,rfl,⟨XC,XC⟩,_,rfl,b,_,rfl, .inl (.of kF),_,_,rfl,rfl,(by rw[el];show(0:Int)<_;omega),b,_,_,_,rfl,rfl, .of kF,FQ,l,_,_,rfl,rfl,mB,iM,⟨_,_,_,_,rfl⟩,a1,a2⟩
  ·rintro σ H' ⟨⟨r,pl,u1,u2,rfl⟩,s1,ws,mB,sG,JJ⟩;exact⟨_,rfl,q H' l ws s1 hl mB sG JJ⟩
theorem d7:aJ ["_law_script","_law_spot","_law_pick","_law_same","_law_most"] ["_law_script","_law_spot"] (aq gw):=⟨rfl,rfl,rfl,by decide+kernel,rfl,by decide+kernel,by decide+kernel⟩
include T a7 in
theorem sL{f:Addr}{fd:FuncData}(F:lD K "_law_numbers" "_law_numbers" gw f fd):a8 P w K mg base (dq P w) true 2 f fd ["_law_script","_law_spot"] (oN K):=by
 refine F.iW d7 XA (fun cj A outer s H vs Q E hr h hX=>?_)
 ·obtain⟨a,ns,k,rfl,_⟩:=h;rfl
 ·obtain⟨a,ns,k,rfl,hS,h0,q⟩:=h;have c2:(0:Int)<2:=XC;have c4:(0:Int)<4:=XC;have c6:(0:Int)<6:=XC;have cM:(0:Int)<1000000:=XC;have SN:∀i:Int,HA i 4:=fun i=>⟨XC,XC⟩
  have V6:∀i:Int,HA i 8:=fun i=>⟨XC,XC⟩
  refine⟨_,(Xk (@pT _ _ _ _ _ _ _ _ _ _ _ _ _ _ _ (2) _ _ Xw d7.nd Xw (by exact rfl) (show bD ["_law_script","_law_spot","_law_pick","_law_same","_law_most"] (aq gw) _ ["_law_k"] [0,1] ["_law_script","_law_spot"]from⟨rfl,by decide+kernel,by decide+kernel,by decide+kernel,rfl,rfl,by decide+kernel,by decide+kernel,by decide+kernel⟩) (@f7 _ _ _ _ _ _ Xw T.iD (W9 aj af) (XD)) (fun _ _ _ _ _=>(Xa (0) (show(["_law_k","_law_script","_law_spot"]:List Str).Nodup by decide+kernel) (Or.inl rfl))) (fun _ _ _ _ _=>j8) (fun _ _ _ _ _=>(W' a7 aR (W9 (pv 1) (W9 (Xf bA (pv 2) (pv 0)) af)))) (XD) (by intro _;rfl)) (Xk (Xq (@aU _ _ _ _ _ _ _ _ rM (Xf bK (Xb (ar K) (pv 2) aj) aj) aj (aW _)) (Xk (W_ (3) d7.nd (Xf bA aj (Xf bK (Xf dN (Xb (ar K) (pv 2) aj) aj) aj))) (Xl (@aM _ _ _ _ (@bR _ _ _ _ (W9 (pv 3) (W9 (Xf bK (Xb (ar K) (pv 2) aj) aj) (W9 (Xf bK (Xb (ar K) (pv 2) aj) aj) (W9 (Xf bA aj (Xf bK (Xb (ar K) (pv 2) aj) (Xf tm aj (pv 3)))) af)))))))) aS) (Xk (W_ (3) d7.nd (Xf bA aj (Xf bK (Xf dN (Xb (ar K) (pv 2) aj) aj) aj))) (Xk (W_ (4) d7.nd (Xb (ar K) (@bR _ _ _ _ (W9 (Xe (qJ rfl) (by exact rfl) T.Cq PyProof.Rows.Boot.«min» (W9 aj (W9 (Xf tm aj (pv 3)) af))) (W9 aj af))) (Xf bK (Xf dN (Xb (ar K) (pv 2) aj) aj) aj))) (Xl (@aM _ _ _ _ (@bR _ _ _ _ (W9 (pv 3) (W9 (Xf bK (Xb (ar K) (pv 2) aj) aj) (W9 (Xf bK (Xb (ar K) (pv 2) aj) aj) (W9 (Xf bA aj (Xf bK (Xb (ar K) (pv 2) aj) (pv 4))) af))))))))))),?_⟩;refine⟨4,rfl,XC,XC,fun D hD=>?_⟩;refine Zz (fun i ys bF H'=>(∃u,bF=[u,some (.ref a),some (.int k)])∧∃is:List Int,ys=is.map V.int∧is.length=i∧H' D=some (.lst ys)∧au H H') ⟨⟨_,rfl⟩,[],rfl,rfl,ae,au.upd hD⟩ ?_ ?_
  ·rintro i ys bF H' hi ⟨⟨u,rfl⟩,is,rfl,hl,V7,s1⟩;have hi:i<4:=hi;refine tI ?_;exact⟨_,rfl,_,rfl,_,rfl,_,_,rfl,rfl,a,ns,_,rfl,s1.seq hS,by lia,V7,a_ (by rw[List.length_map];lia),⟨_,rfl⟩,is++[cell ns (k+(0+(i:Int)))],XE,by simp[hl],ae,s1.fD hD⟩
  ·rintro ys bF H1 ⟨_,is,rfl,hl,sF,s1⟩;obtain⟨p0,p1,p2,p3,rfl⟩:=EV hl;refine⟨_,rfl,D,_,0,_,rfl,rfl, .of sF,ax (j:=0) rfl,_,_,rfl,rfl,c4,_,_,rfl,rfl,_,rfl,?_⟩;refine ba (fun _=>?_) (fun _=>?_)
   ·refine⟨_,rfl,D,_,0,_,rfl,rfl, .of sF,ax (j:=0) rfl,_,_,rfl,rfl,SN _,_,_,rfl,rfl,c6,_,_,rfl,rfl,?_⟩;have z0:1≤1+p0/4%6∧1+p0/4%6≤6:=by lia
    have z3:0≤p3%(3*(1+p0/4%6)):=Int.emod_nonneg _ Xu;have z4:p3%(3*(1+p0/4%6))<3*(1+p0/4%6):=Int.emod_lt_of_pos _ Xu;exact⟨_,rfl,_,rfl,D,_,1,_,rfl,rfl, .of sF,ax (j:=1) rfl,_,_,rfl,rfl,c4,_,rfl,D,_,2,_,rfl,rfl, .of sF,ax (j:=2) rfl,_,_,rfl,rfl,c4,_,rfl,D,_,3,_,rfl,rfl, .of sF,ax (j:=3) rfl,_,rfl,_,_,rfl,rfl, .inl (XC),_,_,rfl,rfl,(show(0:Int)<3*(1+p0/4%6) by lia),_,_,rfl,rfl,aC Xy,fun p hp=>q _ p _ _ _ _ (s1.trans (au.upd hp)) (s1.free hp) ae Xu (by lia) (by lia) (by lia)⟩
   ·refine⟨_,rfl,D,_,0,_,rfl,rfl, .of sF,ax (j:=0) rfl,_,_,rfl,rfl,V6 _,_,_,rfl,rfl,(show(0:Int)<999999 by decide),_,_,rfl,rfl,?_⟩;have z0:1≤1+p0/8%999999∧1+p0/8%999999≤999999:=by lia
    obtain⟨m,As,hm⟩:=int_at [if 3*(1+p0/8%999999)<999999 then 3*(1+p0/8%999999)else 999999,999999] (i:=p0/4%2) (by lia) (show p0/4%2<2 by lia);have Ec:1≤m∧m≤999999:=by
     simp only[List.mem_cons,List.not_mem_nil,or_false]at As;rcases As with rfl|rfl
     ·split<;>lia
     ·lia
    refine⟨_,rfl,_,_,rfl,rfl, .inl (XC),_,_,rfl,aC Xy,fun p hp=>?_⟩;have m7:=au.upd (o:= .lst [.int (if 3*(1+p0/8%999999)<999999 then 3*(1+p0/8%999999)else 999999), .int 999999]) hp _ _ sF;refine⟨_,rfl,D,_,0,_,rfl,rfl, .of m7,ax (j:=0) rfl,_,_,rfl,rfl,SN _,_,_,rfl,rfl,c2,p,_,_,_,rfl,rfl, .of ae,hm,?_⟩;have z3:0≤p3%m:=Int.emod_nonneg _ Xu;have z4:p3%m<m:=Int.emod_lt_of_pos _ Xu;exact⟨_,rfl,_,rfl,D,_,1,_,rfl,rfl, .of m7,ax (j:=1) rfl,_,_,rfl,rfl,cM,_,rfl,D,_,2,_,rfl,rfl, .of m7,ax (j:=2) rfl,_,_,rfl,rfl,cM,_,rfl,D,_,3,_,rfl,rfl, .of m7,ax (j:=3) rfl,_,rfl,_,_,rfl,rfl,(show(0:Int)<m by lia),_,_,rfl,rfl,aC Xy,fun p2 AK=>q _ p2 _ _ _ _ ((s1.trans (au.upd hp)).trans (au.upd AK)) ((s1.trans (au.upd hp)).free AK) ae Xu (by lia) (by lia) (by lia)⟩
theorem cZ:aJ ["_law_cell","_law_bank_here","_law_same","_law_found","_law_rest","_law_x","_law_y","_law_price"] ["_law_cell","_law_bank_here","_law_same"] (aq mZ):=⟨rfl,rfl,rfl,by decide+kernel,rfl,by decide+kernel,by decide+kernel⟩
include T in
theorem wK{f:Addr}{fd:FuncData}(F:lD K "_law_near" "_law_near" mZ f fd):a8 P w K mg base (dq P w) true 1 f fd ["_law_cell","_law_bank_here","_law_same"] v8:=by
 refine F.iW cZ XA (fun cj A outer s H vs Q E hr h hX=>?_)
 ·obtain⟨cell,same,b,zs,rfl,_⟩:=h;rfl
 ·obtain⟨cell,same,b,zs,rfl,hb,V8,hw,hn,W5,HC,q⟩:=h;have Ls:(0:Int)<same+3:=XB;refine⟨_,(Xk (W_ (3) cZ.nd (@bR _ _ _ _ af)) (Xk (W_ (4) cZ.nd (pv 0)) (Xk (@b_ _ _ _ _ _ _ _ _ hX.own Xw (@bE _ K _ _ _ (pv 1) (XD)) (Xa (5) cZ.nd (Or.inl rfl)) (Xl (@b_ _ _ _ _ _ _ _ _ hX.own Xw (@bE _ K _ _ _ (pv 1) (XD)) (Xa (6) cZ.nd (Or.inl rfl)) (Xl (Xq (@aU _ _ _ _ _ _ _ _ BQ (pv 5) (pv 6) (aW _)) (Xk (W_ (7) cZ.nd (Xf bK (Xf dN (pv 4) aj) (Xf bA (pv 2) aj))) (Xn (Xq (@aU _ _ _ _ _ _ _ _ jA (Xf bK (pv 4) aj) aj (aW _)) (Xk (@aY _ _ _ _ (Xg K PySem.F.plainAttrs_list PySem.F.slot_list_append PySem.F.type_list_append bJ (pv 3) (W9 (@fB _ _ _ _ _ (W9 (pv 5) (W9 (pv 6) (W9 (Xe (qJ rfl) (by exact rfl) T.Cq PyProof.Rows.Boot.«min» (W9 (pv 7) (W9 aj af))) af)))) af)) (XD)) (Xl (W_ (4) cZ.nd (Xf dN (pv 4) (Xf bA (pv 2) aj))))) (Xl (Xq (@aU _ _ _ _ _ _ _ _ jA (Xf bK (pv 4) aj) aj (aW _)) (Xl (@aY _ _ _ _ (Xg K PySem.F.plainAttrs_list PySem.F.slot_list_append PySem.F.type_list_append bJ (pv 3) (W9 (@fB _ _ _ _ _ (W9 (pv 5) (W9 (pv 6) (W9 aj af)))) af)) (XD))) aS))) (Xl (W_ (4) cZ.nd (Xf dN (pv 4) aj))))) aS)) (by intro _;rfl))) (by intro _;rfl)) (Xl (@aM _ _ _ _ (pv 3)))))),?_⟩;refine⟨aC Xy,fun l hl=>?_⟩;refine⟨_,rfl,?_⟩;have W6:b≠l:=aA hb hl;refine⟨_,rfl,b,rfl,⟨_, .of (au.upd hl _ _ hb)⟩,?_⟩;refine cD (xs:=zs.map V.str) (fun i σ H'=>(∃(rest:Int)(u1 u2 u3:Option V),σ=[some (.int cell),some (.ref b),some (.int same),some (.ref l),some (.int rest),u1,u2,u3])∧au H H'∧∃xs fs,H' l=some (.lst xs)∧dH H' xs fs∧cT zs i 0 fs) ⟨⟨_,_,_,_,rfl⟩,au.upd hl,[],[],ae, .nil, .nil⟩ ?_ ?_ ?_
  ·rintro i σ H' _ ⟨_,s1,_⟩;exact .of (s1 _ _ hb)
  ·rintro i v σ H' hv ⟨⟨rest,u1,u2,u3,rfl⟩,s1,xs,fs,mB,T1,P1⟩;obtain⟨x,hx,rfl⟩:∃x,zs[i]?=some x∧v= .str x:=nO hv;have hi:i<zs.length:=(Xc hx).1;refine⟨_,rfl,b,rfl,⟨_, .of (s1 _ _ hb)⟩,?_⟩;refine cD (xs:=zs.map V.str) (fun j σ H'=>(∃(rest:Int)(u2 u3:Option V),σ=[some (.int cell),some (.ref b),some (.int same),some (.ref l),some (.int rest),some (.str x),u2,u3])∧au H H'∧∃xs fs,H' l=some (.lst xs)∧dH H' xs fs∧cT zs i j fs) ⟨⟨_,_,_,rfl⟩,s1,xs,fs,mB,T1,P1⟩ ?_ ?_ ?_
   ·rintro j σ H' _ ⟨_,s1,_⟩;exact .of (s1 _ _ hb)
   ·clear s1 mB T1 P1 xs fs u1 u2 u3 rest H';rintro j v σ H' hv ⟨⟨rest,u2,u3,rfl⟩,s1,xs,fs,mB,T1,P1⟩;obtain⟨y,hy,rfl⟩:∃y,zs[j]?=some y∧v= .str y:=nO hv;have Ca:xs.length<1000:=by
     have h1:=P1.wR;have h2:i*(zs.length-1)≤8*7:=Nat.mul_le_mul Xz (XB);have h3:j<zs.length:=(Xc hy).1;have h4:=T1.1;omega
    refine⟨_,rfl,_,rfl,rfl,_,rfl,?_⟩;refine ba (fun h=>?_) (fun h=>?_)
    rotate_left
    ·exact⟨⟨_,_,_,rfl⟩,s1,xs,fs,mB,T1,P1.skip⟩
    have f9:¬x=y:=by simpa using h
    refine⟨_,rfl,_,_,rfl,rfl,⟨XC,XC⟩,_,rfl,_,_,rfl,rfl,_,_,rfl,rfl,Ls,?_⟩;have p0:0≤rest/3%(same+3):=Int.emod_nonneg _ Xz;have add:∀(t:Addr)(ht:H' t=none)(pr:Int),0≤pr→pr≤999999→au H (upd (upd H' t (.tup [.str x, .str y, .int pr])) l (.lst (xs++[.ref t])))∧∃DU G8,upd (upd H' t (.tup [.str x, .str y, .int pr])) l (.lst (xs++[.ref t])) l=some (.lst DU)∧dH (upd (upd H' t (.tup [.str x, .str y, .int pr])) l (.lst (xs++[.ref t]))) DU G8∧cT zs i (j+1) G8:=fun t ht pr h0 h1=>by
     refine⟨(s1.trans (au.upd ht)).fD hl,_,fs++[(x,y,pr)],ae,?_,P1.add hn hw hx hy f9 h0 h1⟩;have T2:dH (upd H' t (.tup (Ii (x,y,pr)))) (xs++[.ref t]) (fs++[(x,y,pr)]):=(T1.same (au.upd ht)).snoc ae;exact T2.cq (d6.lst (au.upd ht _ _ mB))
    refine⟨fun σ H2=>(∃(rest:Int)(u3:Option V),σ=[some (.int cell),some (.ref b),some (.int same),some (.ref l),some (.int rest),some (.str x),some (.str y),u3])∧au H H2∧∃xs fs,H2 l=some (.lst xs)∧dH H2 xs fs∧cT zs i (j+1) fs,?_,?_⟩
    ·refine⟨_,rfl,_,_,rfl,rfl,(show(0:Int)<3 by decide),rfl,_,rfl,?_⟩;refine ba (fun _=>?_) (fun _=>?_)
     ·refine⟨_,rfl, .inl ⟨rfl,_, .of mB⟩,_,rfl,_,rfl,_,rfl,_,_,rfl,aC Xy,fun t ht=>⟨l,xs,_,rfl,rfl,au.upd ht _ _ mB,a_ Xz,?_⟩⟩;obtain⟨a1,a2⟩:=add t ht (if 999999<rest/3%(same+3)then 999999 else rest/3%(same+3)) (by split<;>omega) (by split<;>omega);exact⟨_,rfl,_,rfl,_,_,rfl,rfl,_,_,rfl,rfl,⟨Ls,XB⟩,⟨_,_,rfl⟩,a1,a2⟩
     ·refine⟨_,rfl,_,_,rfl,rfl,(show(0:Int)<9 by decide),rfl,_,rfl,?_⟩;refine ba (fun _=>?_) (fun _=>?_)
      ·refine⟨_,rfl, .inl ⟨rfl,_, .of mB⟩,_,rfl,_,rfl,aC Xy,fun t ht=>⟨l,xs,_,rfl,rfl,au.upd ht _ _ mB,a_ Xz,?_⟩⟩;obtain⟨a1,a2⟩:=add t ht 999999 (XC) (XC);exact⟨⟨_,_,rfl⟩,a1,a2⟩
      ·exact⟨⟨_,_,rfl⟩,s1,xs,fs,mB,T1,P1.skip⟩
    rintro σ H2 ⟨⟨G9,u4,rfl⟩,s2,DU,G8,uj,T2,P2⟩;exact⟨_,rfl,_,_,rfl,rfl,⟨XC,XC⟩,⟨_,_,_,rfl⟩,s2,DU,G8,uj,T2,P2⟩
   ·rintro σ H2 ⟨⟨G9,u4,u5,rfl⟩,s2,DU,G8,uj,T2,P2⟩;rw[List.length_map]at P2;exact⟨⟨_,_,_,_,rfl⟩,s2,DU,G8,uj,T2,P2.row hi⟩
  ·rintro σ H2 ⟨⟨G9,u4,u5,u6,rfl⟩,s2,DU,G8,uj,T2,P2⟩;rw[List.length_map]at P2;exact⟨_,rfl,q H2 l DU G8 s2 hl uj T2 (P2.good V8)⟩
variable(kf:cc P w K mg base true 1 "_law_bank" ["_law_cell","_law_other","_law_many"] v7)
variable(kg:cc P w K mg base true 2 "_law_book" ["_law_script","_law_cell","_law_spot","_law_many","_law_bank_here"] (v9 K))
variable(jo:cc P w K mg base true 2 "_law_quote" ["_law_script","_law_cell","_law_spot","_law_many","_law_first","_law_bank_here"] (tO K))
variable(gC:cc P w K mg base true 2 "_law_numbers" ["_law_script","_law_spot"] (oN K))
variable(kh:cc P w K mg base true 1 "_law_near" ["_law_cell","_law_bank_here","_law_same"] v8)
theorem c7:aJ ["_law_script","_law_most","_law_many","_law_bank_here","_law_one","_law_other","_law_first","_law_second","_law_numbers_here"] ["_law_script","_law_most"] (aq m3):=⟨rfl,rfl,rfl,by decide+kernel,rfl,by decide+kernel,by decide+kernel⟩
include T a7 kf kg jo gC kh in
theorem wL{f:Addr}{fd:FuncData}(F:lD K "_law_case" "_law_case" m3 f fd):a8 P w K mg base (dq P w) true 3 f fd ["_law_script","_law_most"] (v_ K):=by
 refine F.iW c7 XA (fun cj A outer s H vs Q E hr h hX=>?_)
 ·obtain⟨a,ns,most,rfl,_⟩:=h;rfl
 ·obtain⟨a,ns,most,rfl,hS,QS,As,q⟩:=h;refine⟨_,(Xn (W_ (2) c7.nd (Xf bA (Xf bA aj (Xf bK (W' a7 aR (W9 (pv 0) (W9 aj af))) aj)) (Xf tm (@hG _ _ _ _ _ _ _ _ _ qK Xw T.YC PyProof.Rows.Boot.«int» (W9 (@j7 _ _ _ _ _ _ _ _ om (pv 1) aj (aW _)) af) (XC) (XC) (XD) (XD)) aj))) (Xn (W_ (3) c7.nd (W' kf aR (W9 (W' a7 aR (W9 (pv 0) (W9 aj af))) (W9 (W' a7 aR (W9 (pv 0) (W9 aj af))) (W9 (pv 2) af))))) (Xn (W_ (4) c7.nd (Xf dM (pv 1) (Xf bK (W' a7 aR (W9 (pv 0) (W9 aj af))) (Xf bA (pv 1) aj)))) (Xn (W_ (5) c7.nd (Xf dM (pv 1) (Xf bK (W' a7 aR (W9 (pv 0) (W9 aj af))) (Xf bA (pv 1) aj)))) (Xn (W_ (6) c7.nd (W' kg aR (W9 (pv 0) (W9 (W' a7 aR (W9 (pv 0) (W9 aj af))) (W9 aj (W9 (pv 4) (W9 (pv 3) af))))))) (Xn (W_ (7) c7.nd (W' jo aR (W9 (pv 0) (W9 (W' a7 aR (W9 (pv 0) (W9 aj af))) (W9 aj (W9 (pv 5) (W9 (pv 6) (W9 (pv 3) af)))))))) (Xn (W_ (8) c7.nd (W' gC aR (W9 (pv 0) (W9 aj af)))) (Xl (@aM _ _ _ _ (@bR _ _ _ _ (W9 (pv 6) (W9 (pv 7) (W9 (pv 8) (W9 (W' kh aR (W9 (W' a7 aR (W9 (pv 0) (W9 aj af))) (W9 (@pK _ _ _ _ _ _ _ _ _ _ (Cp K) (pv 3) vI (@pJ _ _ _ aj)) (W9 (Xb (ar K) (pv 8) aj) af)))) af)))))))))))))),?_⟩;refine⟨fun σ H1=>∃many:Int,σ=[some (.ref a),some (.int most),some (.int many),none,none,none,none,none,none]∧H1=H∧1≤many∧many≤12,?_,?_⟩
  ·refine⟨_,rfl,a,ns,2,rfl,hS,XC,_,_,rfl,rfl,(show(0:Int)<5 by decide),_,_,rfl,rfl,_,rfl,_,_,rfl,rfl, .inr ⟨_,rfl,_,_,rfl,rfl, .inr ⟨XC,XC⟩,_,_,rfl,rfl,_,rfl,rfl,?_,?_⟩⟩
   ·split<;>lia
   ·split<;>lia
  rintro σ H ⟨many,rfl,rfl,W7,Ke⟩;refine⟨fun σ H1=>∃(b:Addr)(zs:List Str),σ=[some (.ref a),some (.int most),some (.int many),some (.ref b),none,none,none,none,none]∧au H H1∧H1 b=some (.lst (zs.map V.str))∧(1≤zs.length∧zs.length≤12)∧(∀z∈zs,tK z=true)∧zs.Nodup,?_,?_⟩
  ·exact⟨_,rfl,a,ns,0,rfl,hS,XC,_,rfl,a,ns,1,rfl,hS,XC,_,rfl,_,_,many,rfl,by lia,by lia,fun H' b zs s1 hb kF hz hw hn=>⟨b,zs,rfl,s1,kF,by lia,hw,hn⟩⟩
  rintro σ H1 ⟨b,zs,rfl,s1,kF,hz,hw,hn⟩;have MQ:=s1.seq hS;refine⟨fun σ H2=>∃one:Int,σ=[some (.ref a),some (.int most),some (.int many),some (.ref b),some (.int one),none,none,none,none]∧H2=H1∧0≤one∧one≤most,?_,?_⟩
  ·have z0:0≤cell ns 3%(most+1):=Int.emod_nonneg _ Xu;have z1:cell ns 3%(most+1)<most+1:=Int.emod_lt_of_pos _ Xu;exact⟨_,rfl,_,rfl,a,ns,3,rfl,MQ,XC,_,rfl,_,_,rfl,rfl,_,_,rfl,rfl,(show(0:Int)<most+1 by lia),_,_,rfl,rfl,_,rfl,rfl,by lia,by lia⟩
  rintro σ H1 ⟨one,rfl,rfl,V9,Fg⟩;refine⟨fun σ H2=>∃FR:Int,σ=[some (.ref a),some (.int most),some (.int many),some (.ref b),some (.int one),some (.int FR),none,none,none]∧H2=H1∧0≤FR∧FR≤most,?_,?_⟩
  ·have z0:0≤cell ns 4%(most+1):=Int.emod_nonneg _ Xu;have z1:cell ns 4%(most+1)<most+1:=Int.emod_lt_of_pos _ Xu;exact⟨_,rfl,_,rfl,a,ns,4,rfl,MQ,XC,_,rfl,_,_,rfl,rfl,_,_,rfl,rfl,(show(0:Int)<most+1 by lia),_,_,rfl,rfl,_,rfl,rfl,by lia,by lia⟩
  rintro σ H1 ⟨FR,rfl,rfl,FG,UW⟩;refine⟨fun σ H2=>∃(x:Addr)(xs:List Str),σ=[some (.ref a),some (.int most),some (.int many),some (.ref b),some (.int one),some (.int FR),some (.ref x),none,none]∧au H1 H2∧H2 x=some (.lst (xs.map V.str))∧xs.length=one.toNat∧∀w∈xs,w∈zs,?_,?_⟩
  ·exact⟨_,rfl,_,rfl,a,ns,10,rfl,MQ,XC,_,rfl,_,rfl,a,b,ns,zs,_,16,one,rfl,MQ,kF,⟨hz.1,by lia⟩,XC,V9,by lia,fun H2 x xs s2 hx Ap hl pC=>⟨x,xs,rfl,s2,Ap,hl,pC⟩⟩
  rintro σ H2 ⟨x,xs,rfl,s2,Ap,P6,QT⟩;have s3:=s1.trans s2;have QW:=s2.seq MQ;refine⟨fun σ H3=>∃(y:Addr)(ys:List Str),σ=[some (.ref a),some (.int most),some (.int many),some (.ref b),some (.int one),some (.int FR),some (.ref x),some (.ref y),none]∧au H2 H3∧H3 y=some (.lst (ys.map V.str))∧ys.length=FR.toNat,?_,?_⟩
  ·exact⟨_,rfl,_,rfl,a,ns,11,rfl,QW,XC,_,rfl,_,rfl,_,rfl,a,b,x,ns,zs,xs,_,17,FR,rfl,QW,s2 _ _ kF,Ap,⟨hz.1,by lia⟩,by lia,QT,XC,FG,by lia,fun H3 y ys s4 hy GQ hl _=>⟨y,ys,rfl,s4,GQ,hl⟩⟩
  rintro σ H3 ⟨y,ys,rfl,s4,V_,Sg⟩;have s5:=s3.trans s4;have SO:=s4.seq QW;refine⟨fun σ H4=>∃(n:Addr)(sa ou iN le:Int),σ=[some (.ref a),some (.int most),some (.int many),some (.ref b),some (.int one),some (.int FR),some (.ref x),some (.ref y),some (.ref n)]∧au H3 H4∧H4 n=some (.lst [.int sa, .int ou, .int iN, .int le])∧(1≤sa∧sa≤999999)∧(0≤ou∧ou≤999999)∧(0≤iN∧iN≤999999)∧(1≤le∧le≤999999),?_,?_⟩
  ·exact⟨_,rfl,a,ns,5,rfl,SO,XC,fun H4 D sa ou iN le s6 hD G7 h1 h2 h3 h4=>⟨D,sa,ou,iN,le,rfl,s6,G7,h1,h2,h3,h4⟩⟩
  rintro σ H4 ⟨n,sa,ou,iN,le,rfl,s6,SQ,h1,h2,h3,h4⟩;have s7:=s5.trans s6;have V':=s6.seq SO;have Wa:H4 b=some (.lst (zs.map V.str)):=s6 _ _ (s4 _ _ (s2 _ _ kF));refine⟨_,rfl,_,rfl,_,rfl,_,rfl,a,ns,9,rfl,V',XC,_,rfl,_,rfl,b,_,rfl, .of Wa,fun b5 Kk=>?_⟩;have e5:AO (zs.map V.str) none (some 5)=(zs.take 5).map V.str:=by
   have:HT.lC (zs.map V.str).length (zs.map V.str).length (some 5)=min 5 zs.length:=by
    rw[List.length_map];simp only[HT.lC];split<;>lia
   have e0:HT.lC (zs.map V.str).length 0 none=0:=by simp[HT.lC]
   unfold AO;rw[this,e0,List.drop_zero,Nat.sub_zero,←List.map_take]
   congr 1
   apply List.ext_getElem?;intro i;rw[List.getElem?_take,List.getElem?_take];by_cases hi:i<zs.length
   ·by_cases h5:i<5
    ·rw[Xp Xu,Xp h5]
    ·rw[Xm Xu,Xm h5]
   ·simp[List.getElem?_eq_none (by lia:zs.length≤i)]
  rw[e5];have s8:au H4 (upd H4 b5 (.lst ((zs.take 5).map V.str))):=au.upd Kk;have Wb:=s8 _ _ SQ;refine⟨_,rfl,n,_,0,_,rfl,rfl, .of Wb,ax (j:=0) rfl,_,sa,b5,zs.take 5,rfl,ae,by simp;lia,fun z hz=>hw z (List.mem_of_mem_take hz),hn.sublist (List.take_sublist ..),h1.1,h1.2,fun H6 l us fs s9 hl SR T6 g6=>?_⟩;have sA:=(s7.trans s8).trans s9;refine⟨aC Xy,fun r hr=>?_⟩;have sB:=au.upd (o:= .lst [.ref x, .ref y, .ref n, .ref l]) hr;have sC:=s9.trans sB;refine q _ r ⟨xs,ys,sa,ou,iN,le,fs⟩ x y n l us (sA.trans sB) (sA.free hr) ⟨ae,?_,?_,?_,sB _ _ SR,T6.same sB⟩ ⟨by show xs.length≤_;lia,by show ys.length≤_;lia,g6,h1,h2,h3,h4⟩
  ·exact sC _ _ (s8 _ _ (s6 _ _ (s4 _ _ Ap)))
  ·exact sC _ _ (s8 _ _ (s6 _ _ V_))
  ·exact sC _ _ (s8 _ _ SQ)
theorem jq:aJ ["_law_x","_law_y","_law_same","_law_near_here","_law_old","_law_new","_law_price"] ["_law_x","_law_y","_law_same","_law_near_here"] (aq m4):=⟨rfl,rfl,rfl,by decide+kernel,rfl,by decide+kernel,by decide+kernel⟩
include T in
theorem wM{f:Addr}{fd:FuncData}(F:lD K "_law_pair" "_law_pair" m4 f fd):a8 P w K mg base (dq P w) true 1 f fd ["_law_x","_law_y","_law_same","_law_near_here"] tM:=by
 refine F.iW jq XA (fun cj A outer s H vs Q E hr h hX=>?_)
 ·obtain⟨x,y,same,l,xs,fs,rfl,_⟩:=h;rfl
 ·obtain⟨x,y,same,l,xs,fs,rfl,hl,T1,q⟩:=h;refine⟨_,(Xk (Xq (@aU _ _ _ _ _ _ _ _ jA (pv 0) (pv 1) (aW _)) (Xl (@aM _ _ _ _ (pv 2))) aS) (Xk (@b_ _ _ _ _ _ _ _ _ hX.own Xw (@bE _ K _ _ _ (pv 3) (XD)) (@jf _ K _ _ _ (3) _ Xw (@br _ _ _ _ _ (Xa (4) jq.nd (Or.inl rfl)) (@br _ _ _ _ _ (Xa (5) jq.nd (Or.inl rfl)) (@br _ _ _ _ _ (Xa (6) jq.nd (Or.inl rfl)) jd (XD)) (XD)) (XD)) (XD) (XD) (XD)) (Xl (Xq (@PW.pt _ _ _ (@pw_and _ _ _ _ _ _ _ (@aU _ _ _ _ _ _ _ _ jA (pv 4) (pv 0) (aW _)) (@pw_and1 _ _ _ _ (@aU _ _ _ _ _ _ _ _ jA (pv 5) (pv 1) (aW _))))) (Xl (@aM _ _ _ _ (Xf dM (pv 2) (pv 6)))) aS)) (by intro _;rfl)) (Xl (@aM _ _ _ _ lA)))),?_⟩;refine⟨_,rfl,_,rfl,rfl,_,rfl,?_⟩;refine ba (fun h=>?_) (fun h=>?_)
  ·have h:x=y:=by simpa using h
   rw[show dI same fs x y=some same by simp[dI,h]]at q;exact⟨_,rfl,q⟩
  have h:¬x=y:=by simpa using h
  refine⟨_,rfl,l,rfl,⟨_, .of hl⟩,?_⟩;refine cD (xs:=xs) (fun i σ H'=>(∃u1 u2 u3,σ=[some (.str x),some (.str y),some (.int same),some (.ref l),u1,u2,u3])∧H'=H∧∀f∈fs.take i,¬(f.1=x∧f.2.1=y)) ⟨⟨_,_,_,rfl⟩,rfl,XE⟩ ?_ ?_ ?_
  ·rintro i σ H' _ ⟨_,rfl,_⟩;exact .of hl
  ·rintro i v σ H' hv ⟨⟨u1,u2,u3,rfl⟩,rfl,A7⟩;have hi:i<fs.length:=by rw[←T1.1];exact(Xc hv).1
   have hf:fs[i]?=some fs[i]:=by simp[hi]
   generalize fs[i]=f0 at hf;obtain⟨t,Ao,wX⟩:=T1.2 i f0 hf;rw[hv]at Ao;cases Ao;obtain⟨x0,y0,p0⟩:=f0;refine⟨t,_,rfl, .of wX,rfl,_,_,rfl,_,_,rfl,_,_,rfl,rfl,?_⟩;have NU:¬(x0=x∧y0=y)→∀f∈fs.take (i+1),¬(f.1=x∧f.2.1=y):=fun f9 f SS=>by
    rw[List.take_succ,hf]at SS;rcases List.mem_append.mp SS with h|h
    ·exact A7 f h
    ·have h:f=(x0,y0,p0):=by simpa using h
     rw[h];exact f9
   refine⟨_,rfl,_,rfl,rfl,_,rfl,?_⟩;refine ba (fun hh=>?_) (fun hh=>?_)
   ·have XG:x0=x:=by simpa using hh
    refine⟨_,rfl,_,rfl,rfl,_,rfl,?_⟩;refine ba (fun hh=>?_) (fun hh=>?_)
    ·have kF:y0=y:=by simpa using hh
     have e:dO fs x y=some p0:=rQ hf A7 ⟨XG,kF⟩;rw[show dI same fs x y=some (same-p0) by simp[dI,h,e]]at q;exact⟨_,rfl,_,rfl,_,_,rfl,rfl,q⟩
    ·have kF:¬y0=y:=by simpa using hh
     exact⟨⟨_,_,_,rfl⟩,rfl,NU fun z=>kF z.2⟩
   ·have XG:¬x0=x:=by simpa using hh
    refine jD ?_;exact⟨⟨_,_,_,rfl⟩,rfl,NU fun z=>XG z.1⟩
  ·rintro σ H' ⟨⟨u1,u2,u3,rfl⟩,rfl,A7⟩;rw[T1.1,List.take_length]at A7;have e:dO fs x y=none:=CI A7;rw[show dI same fs x y=none by simp[dI,h,e]]at q;exact q
variable(cA:cc P w K mg base true 1 "_law_whole" ["_law_found"] tL)
theorem oC:aJ ["_law_found","_law_pair_here"] ["_law_found"] (aq lN):=⟨rfl,rfl,rfl,by decide+kernel,rfl,by decide+kernel,by decide+kernel⟩
include T cA in
theorem uJ{f:Addr}{fd:FuncData}(F:lD K "_law_pairs" "_law_pairs" lN f fd):a8 P w K mg base (dq P w) true 2 f fd ["_law_found"] qU:=by
 refine F.iW oC XA (fun cj A outer s H vs Q E hr h hX=>?_)
 ·obtain⟨a,us,ps,rfl,_⟩:=h;rfl
 ·obtain⟨a,us,ps,rfl,ha,P1,q⟩:=h;refine⟨_,(Xk (Xq (@g8 _ _ _ _ (@eM _ _ _ (Xe (k8 K) (by exact rfl) T.gi PyProof.Rows.Boot.«isinstance» (W9 (pv 0) (W9 (@pF _ _ (.ty "list") _ _ Xw T.qQ PyProof.Rows.Boot.«list» Xw (XC) (XC)) af))) (by intro _;rfl))) (Xl (@aM _ _ _ _ ja)) aS) (Xk (@b_ _ _ _ _ _ _ _ _ hX.own Xw (@bE _ K _ _ _ (pv 0) (XD)) (Xa (1) oC.nd (Or.inl rfl)) (Xk (Xq (@PW.pt _ _ _ (@pw_or _ _ _ _ _ _ _ (@g8 _ _ _ _ (@eM _ _ _ (Xe (k8 K) (by exact rfl) T.gi PyProof.Rows.Boot.«isinstance» (W9 (pv 1) (W9 (@pF _ _ (.ty "tuple") _ _ Xw T.EM PyProof.Rows.Boot.«tuple» Xw (XC) (XC)) af))) (by intro _;rfl))) (@pw_or1 _ _ _ _ (@aU _ _ _ _ _ _ _ _ BQ (Xe (aP K) (by exact rfl) T.fz PyProof.Rows.Boot.«len» (W9 (pv 1) af)) aj (aW _))))) (Xl (@aM _ _ _ _ ja)) aS) (Xl (Xq (@PW.pt _ _ _ (@pw_or _ _ _ _ _ _ _ (@g8 _ _ _ _ (@eM _ _ _ (W' cA aR (W9 (Xb (du K) (pv 1) aj) af)) (by intro _;rfl))) (@pw_or1 _ _ _ _ (@g8 _ _ _ _ (@eM _ _ _ (W' cA aR (W9 (Xb (du K) (pv 1) aj) af)) (by intro _;rfl)))))) (Xl (@aM _ _ _ _ ja)) aS))) (by intro _;rfl)) (Xl (@aM _ _ _ _ ja)))),?_⟩;refine⟨_,rfl,_,_,_,true,_,rfl,rfl, .lst ha,rfl,_,rfl,?_⟩;refine jD ?_;refine⟨_,rfl,a,rfl,⟨_, .of ha⟩,?_⟩;refine cD (xs:=us) (fun i σ H'=>(∃u,σ=[some (.ref a),u])∧H'=H) ⟨⟨_,rfl⟩,rfl⟩ ?_ ?_ ?_
  ·rintro i σ H' _ ⟨_,rfl⟩;exact .of ha
  ·rintro i v σ H' hv ⟨⟨u,rfl⟩,rfl⟩;have hi:i<ps.length:=by rw[←P1.1];exact(Xc hv).1
   obtain⟨t,Ao,wX⟩:=P1.Pn hi;rw[hv]at Ao;cases Ao;refine⟨_,rfl,_,_,_,true,_,rfl,rfl, .tup wX,rfl,_,rfl,?_⟩;refine jD ?_;refine⟨_,rfl,t,_,rfl, .inr (.of wX),rfl,_,rfl,?_⟩;refine ba (fun hh=>absurd hh Xy) (fun _=>?_);refine⟨_,rfl,t,_,0,_,rfl,rfl, .of wX,ax (j:=0) rfl,_,rfl,_,rfl,?_⟩;refine jD ?_;refine⟨_,rfl,t,_,1,_,rfl,rfl, .of wX,ax (j:=1) rfl,_,rfl,_,rfl,?_⟩;refine jD ?_;exact⟨⟨_,rfl⟩,rfl⟩
  ·rintro σ H' ⟨⟨u,rfl⟩,rfl⟩;exact q
variable(qi:ot P w K mg base true 5 "Terms" aQ ["self","same","out","into","least","part","near"] [] (sR aQ dR cQ))
theorem oE:aJ ["_law_case_here","_law_n"] ["_law_case_here"] (aq lO):=⟨rfl,rfl,rfl,by decide+kernel,rfl,by decide+kernel,by decide+kernel⟩
include T qi in
theorem uK{f:Addr}{fd:FuncData}(F:lD K "_law_terms" "_law_terms" lO f fd):a8 P w K mg base (dq P w) true 7 f fd ["_law_case_here"] (qT aQ):=by
 refine F.iW oE XA (fun cj A outer s H vs Q E hr h hX=>?_)
 ·obtain⟨a,c,f,g,m,l,us,most,rfl,_⟩:=h;rfl
 ·obtain⟨a,c,x1,x2,m,l,us,most,rfl,C1,ok,q⟩:=h;refine⟨_,(Xk (W_ (1) oE.nd (Xb (ar K) (pv 0) aj)) (Xl (@aM _ _ _ _ (@sQ _ _ _ _ _ _ _ _ _ _ _ _ _ _ qi (hr.mono (XC)) hX.pass (W9 (Xb (ar K) (pv 1) aj) (W9 (Xb (ar K) (pv 1) aj) (W9 (Xb (ar K) (pv 1) aj) (W9 (Xb (ar K) (pv 1) aj) (W9 aj (W9 (@hG _ _ _ _ _ _ _ _ _ (iC K) (by exact rfl) T.qQ PyProof.Rows.Boot.«list» (W9 (Xb (ar K) (pv 0) aj) af) (XC) (XC) (XD) (XD)) af)))))) (XD) (XC) (XD) (XD))))),?_⟩;have Ee:=C1.nu;have uL:=C1.ca;refine⟨_,rfl,a,_,2,_,rfl,rfl, .of uL,ax (j:=2) rfl,?_⟩;refine⟨_,rfl,m,_,0,_,rfl,rfl, .of Ee,ax (j:=0) rfl,_,rfl,m,_,1,_,rfl,rfl, .of Ee,ax (j:=1) rfl,_,rfl,m,_,2,_,rfl,rfl, .of Ee,ax (j:=2) rfl,_,rfl,m,_,3,_,rfl,rfl, .of Ee,ax (j:=3) rfl,_,rfl,a,_,3,_,rfl,rfl, .of uL,ax (j:=3) rfl,l,us,rfl, .inl (.of C1.ne),fun h hh=>fun x dx hx CJ f9=>?_⟩;have s5:au (upd H h (.lst us)) (upd (upd (upd H h (.lst us)) dx (.own x)) x (.ins aQ dx [])):=(au.upd CJ).fD hx;have s4:au H (upd H h (.lst us)):=au.upd hh;refine⟨x,dx,⟨c.same,c.out,c.into,c.least,50⟩, .ref h,us,c.fs,rfl,ae,by rw[ai f9];exact ae, .inr ⟨h,rfl,s5 _ _ ae,C1.tr.same (s4.trans s5)⟩,Zr ok.good,?_⟩;have Wc:jF ⟨c.same,c.out,c.into,c.least,50⟩=true:=by
   have:=ok.same;have:=ok.out;have:=ok.into;have:=ok.least;simp[jF,inR];omega
  rw[Xp Wc,Xp ok.good];intro H6 l2 d sb T6 SR W8;exact⟨rfl,q H6 x (s4.trans (SameBut.YX hx CJ sb)) ⟨_,dx,l2,d,us,T6,rfl,rfl,rfl,rfl⟩⟩
variable(e7:cc P w K mg base true 1 "_law_pair" ["_law_x","_law_y","_law_same","_law_near_here"] tM)
theorem c_:aJ ["_law_case_here","_law_many","_law_x","_law_y","_law_each","_law_same","_law_least"] ["_law_case_here"] (aq m6):=⟨rfl,rfl,rfl,by decide+kernel,rfl,by decide+kernel,by decide+kernel⟩
include T e7 in
theorem wN{f:Addr}{fd:FuncData}(F:lD K "_law_calm" "_law_calm" m6 f fd):a8 P w K mg base (dq P w) true 2 f fd ["_law_case_here"] wF:=by
 refine F.iW c_ XA (fun cj A outer s H vs Q E hr h hX=>?_)
 ·obtain⟨a,c,f,g,m,l,us,rfl,_⟩:=h;rfl
 ·obtain⟨a,c,x1,x2,m,l,us,rfl,C1,ok,q⟩:=h;refine⟨_,(Xn (W_ (1) c_.nd aj) (Xn (@b_ _ _ _ _ _ _ _ _ hX.own Xw (@bE _ K _ _ _ (Xb (ar K) (pv 0) aj) (XD)) (Xa (2) c_.nd (Or.inl rfl)) (Xl (@b_ _ _ _ _ _ _ _ _ hX.own Xw (@bE _ K _ _ _ (Xb (ar K) (pv 0) aj) (XD)) (Xa (3) c_.nd (Or.inl rfl)) (Xl (W_ (1) c_.nd (Xf bA (pv 1) (@hG _ _ _ _ _ _ _ _ _ qK Xw T.YC PyProof.Rows.Boot.«int» (W9 (@Y_ _ _ _ _ _ _ (@pG _ _ _ _ _ (W' e7 aR (W9 (pv 2) (W9 (pv 3) (W9 (Xb (ar K) (Xb (ar K) (pv 0) aj) aj) (W9 (Xb (ar K) (pv 0) aj) af)))))) (by first|exact bq _ (XC) (XC)|rfl)) af) (XC) (XC) (XD) (XD))))) (by intro _;rfl))) (by intro _;rfl)) (Xn (W_ (4) c_.nd (Xf bA (Xf dN (pv 1) aj) aj)) (Xn (W_ (5) c_.nd (Xe (qJ rfl) (by exact rfl) T.Cq PyProof.Rows.Boot.«min» (W9 (Xb (ar K) (Xb (ar K) (pv 0) aj) aj) (W9 (Xf dN aj (pv 4)) af)))) (Xn (W_ (6) c_.nd (Xe (AE rfl) (by exact rfl) T.Gp PyProof.Rows.Boot.«max» (W9 (Xb (ar K) (Xb (ar K) (pv 0) aj) aj) (W9 (Xf bA (Xf tm (Xf dM (pv 4) aj) (pv 5)) aj) af)))) (Xl (@aM _ _ _ _ (@bR _ _ _ _ (W9 (Xb (ar K) (pv 0) aj) (W9 (Xb (ar K) (pv 0) aj) (W9 (@bR _ _ _ _ (W9 (pv 5) (W9 (Xb (ar K) (Xb (ar K) (pv 0) aj) aj) (W9 (Xb (ar K) (Xb (ar K) (pv 0) aj) aj) (W9 (pv 6) af))))) (W9 (Xb (ar K) (pv 0) aj) af)))))))))))),?_⟩;have uL:=C1.ca;have Ee:=C1.nu;have lx:(c.xs.map V.str).length=c.xs.length:=List.length_map ..;have ly:(c.ys.map V.str).length=c.ys.length:=List.length_map ..;refine⟨fun σ H1=>H1=H∧σ=[some (.ref a),some (.int 0),none,none,none,none,none],⟨rfl,rfl⟩,?_⟩;rintro σ H1 ⟨rfl,rfl⟩;refine⟨fun σ H2=>H2=H1∧∃u v,σ=[some (.ref a),some (.int (manyN c c.xs.length:Nat)),u,v,none,none,none],?_,?_⟩
  ·refine⟨_,rfl,a,_,0,_,rfl,rfl, .of uL,ax (j:=0) rfl,x1,rfl,⟨_, .of C1.fi⟩,?_⟩;refine cD (xs:=c.xs.map V.str) (fun i σ H2=>H2=H1∧∃u v,σ=[some (.ref a),some (.int (manyN c i:Nat)),u,v,none,none,none]) ⟨rfl,_,_,rfl⟩ ?_ ?_ ?_
   ·rintro i σ H2 _ ⟨rfl,_⟩;exact .of C1.fi
   ·rintro i v σ H2 hv ⟨rfl,u1,u2,rfl⟩;obtain⟨wx,N_,rfl⟩:=nO hv;refine⟨_,rfl,a,_,1,_,rfl,rfl, .of uL,ax (j:=1) rfl,x2,rfl,⟨_, .of C1.se⟩,?_⟩;refine cD (xs:=c.ys.map V.str) (fun j σ H3=>H3=H2∧∃v,σ=[some (.ref a),some (.int (manyN c i+DL c i j:Nat)),some (.str wx),v,none,none,none]) ⟨rfl,_,rfl⟩ ?_ ?_ ?_
    ·rintro j σ H3 _ ⟨rfl,_⟩;exact .of C1.se
    ·rintro j v σ H3 Oc ⟨rfl,u3,rfl⟩;obtain⟨wy,BH,rfl⟩:=nO Oc;have Qz:c.pw (aK (i,j))=dI c.same c.fs wx wy:=Case.pw_of (by rw[show(aK (i,j)).1=(i:Int)from rfl,tN];exact N_) (by rw[show(aK (i,j)).2=(j:Int)from rfl,tN];exact BH);refine⟨_,rfl,_,rfl,_,rfl,_,rfl,a,_,2,_,rfl,rfl, .of uL,ax (j:=2) rfl,m,_,0,_,rfl,rfl, .of Ee,ax (j:=0) rfl,_,rfl,a,_,3,_,rfl,rfl, .of uL,ax (j:=3) rfl,wx,wy,c.same,l,us,c.fs,rfl,C1.ne,C1.tr, .inr ⟨_,rfl,_,_,rfl,rfl,rfl,some (.str wy),?_⟩⟩;rw[Bl,Qz];cases dI c.same c.fs wx wy<;>simp[bC,List.set]<;>omega
    ·rintro σ H3 ⟨rfl,u3,rfl⟩;rw[ly];exact⟨rfl,_,_,rfl⟩
   ·rintro σ H2 ⟨rfl,u1,u2,rfl⟩;rw[lx];exact⟨rfl,_,_,rfl⟩
  rintro σ H1 ⟨rfl,u,v,rfl⟩;have SU:manyN c c.xs.length≤3600:=by
   have:=Am c c.xs.length;have h2:=Nat.mul_le_mul ok.x ok.y;omega
  have ee:((manyN c c.xs.length:Nat):Int)/21+1=(bM c:Int):=by unfold bM;omega
  have he:(1:Int)≤bM c∧(bM c:Int)≤172:=by unfold bM;omega
  refine⟨fun σ H2=>H2=H1∧σ=[some (.ref a),some (.int (manyN c c.xs.length:Nat)),u,v,some (.int (bM c)),none,none],⟨_,rfl,_,_,rfl,rfl,⟨XC,XC⟩,_,_,rfl,rfl,rfl,by rw[ee];rfl⟩,?_⟩;rintro σ H1 ⟨rfl,rfl⟩;have es:(if 999999/(bM c:Int)<c.same then 999999/(bM c:Int)else c.same)=eD c:=by unfold eD;split<;>omega
  refine⟨fun σ H2=>H2=H1∧σ=[some (.ref a),some (.int (manyN c c.xs.length:Nat)),u,v,some (.int (bM c)),some (.int (eD c)),none],⟨_,rfl,a,_,2,_,rfl,rfl, .of uL,ax (j:=2) rfl,m,_,0,_,rfl,rfl, .of Ee,ax (j:=0) rfl,_,rfl,_,_,rfl,rfl,⟨XB,XB⟩,_,_,rfl,rfl,by rw[es];rfl⟩,?_⟩;rintro σ H1 ⟨rfl,rfl⟩;have s1:1≤eD c∧eD c≤999999:=by
   have:=(An ok Xz).same;exact this
  have el:(if ((bM c:Int)-1)*eD c+1>c.least then((bM c:Int)-1)*eD c+1 else c.least)=(cx c).least:=by show _=max c.least _;split<;>omega
  refine⟨fun σ H2=>H2=H1∧σ=[some (.ref a),some (.int (manyN c c.xs.length:Nat)),u,v,some (.int (bM c)),some (.int (eD c)),some (.int (cx c).least)],⟨_,rfl,a,_,2,_,rfl,rfl, .of uL,ax (j:=2) rfl,m,_,3,_,rfl,rfl, .of Ee,ax (j:=3) rfl,_,rfl,_,_,rfl,rfl,_,rfl,_,_,rfl,rfl, .inl ⟨XB,XB⟩,_,_,rfl,rfl,_,_,rfl,rfl,by rw[el];rfl⟩,?_⟩;rintro σ H1 ⟨rfl,rfl⟩;refine⟨_,rfl,a,_,0,_,rfl,rfl, .of uL,ax (j:=0) rfl,_,rfl,a,_,1,_,rfl,rfl, .of uL,ax (j:=1) rfl,_,rfl,_,rfl,a,_,2,_,rfl,rfl, .of uL,ax (j:=2) rfl,m,_,1,_,rfl,rfl, .of Ee,ax (j:=1) rfl,_,rfl,a,_,2,_,rfl,rfl, .of uL,ax (j:=2) rfl,m,_,2,_,rfl,rfl, .of Ee,ax (j:=2) rfl,_,rfl,aC Xy,fun m' Gj=>?_⟩;have sm:=au.upd (o:= .lst [.int (eD c), .int c.out, .int c.into, .int (cx c).least]) Gj;have QX:=sm _ _ uL;refine⟨_,rfl,a,_,3,_,rfl,rfl, .of QX,ax (j:=3) rfl,aC Xy,fun b hb=>?_⟩;have sb:=au.upd (o:= .lst [.ref x1, .ref x2, .ref m', .ref l]) hb;have sA:=sm.trans sb;exact q _ b m' sA (sm.free hb) ae ⟨ae,sA _ _ C1.fi,sA _ _ C1.se,sb _ _ ae,sA _ _ C1.ne,C1.tr.same sA⟩
theorem fJ:aJ ["_law_case_here","_law_shut","_law_found","_law_i","_law_j","_law_gain"] ["_law_case_here","_law_shut"] (aq jk):=⟨rfl,rfl,rfl,by decide+kernel,rfl,by decide+kernel,by decide+kernel⟩
include T e7 in
theorem uM{f:Addr}{fd:FuncData}(F:lD K "_law_spots" "_law_spots" jk f fd):a8 P w K mg base (dq P w) true 2 f fd ["_law_case_here","_law_shut"] t_:=by
 refine F.iW fJ XA (fun cj A outer s H vs Q E hr h hX=>?_)
 ·obtain⟨a,s0,c,f,g,m,l,us,ws,sh,rfl,_⟩:=h;rfl
 ·obtain⟨a,s0,c,x1,x2,m,l,us,ws,sh,rfl,C1,hs,P1,hx,hy,q⟩:=h;have hu:=hr.units;have hu:(A.deeper (PyProof.Rows.envOfC "_law_spots" (aq jk) s.heap.objs.size f cj)).units+1<cLine:=XB;have lx:(c.xs.map V.str).length=c.xs.length:=List.length_map ..;have ly:(c.ys.map V.str).length=c.ys.length:=List.length_map ..;refine⟨_,(Xk (W_ (2) fJ.nd (@bR _ _ _ _ af)) (Xk (@b_ _ _ _ _ _ _ _ _ hX.own Xw (@f7 _ _ _ _ _ _ Xw T.iD (W9 (Xe (aP K) (by exact rfl) T.fz PyProof.Rows.Boot.«len» (W9 (Xb (ar K) (pv 0) aj) af)) af) (XD)) (Xa (3) fJ.nd (Or.inl rfl)) (Xl (@b_ _ _ _ _ _ _ _ _ hX.own Xw (@f7 _ _ _ _ _ _ Xw T.iD (W9 (Xe (aP K) (by exact rfl) T.fz PyProof.Rows.Boot.«len» (W9 (Xb (ar K) (pv 0) aj) af)) af) (XD)) (Xa (4) fJ.nd (Or.inl rfl)) (Xk (W_ (5) fJ.nd (W' e7 aR (W9 (Xb (ar K) (Xb (ar K) (pv 0) aj) (pv 3)) (W9 (Xb (ar K) (Xb (ar K) (pv 0) aj) (pv 4)) (W9 (Xb (ar K) (Xb (ar K) (pv 0) aj) aj) (W9 (Xb (ar K) (pv 0) aj) af)))))) (Xl (Xq (@PW.pt _ _ _ (@pw_and _ _ _ _ _ _ _ (Xi (@pG _ _ _ _ _ (pv 5))) (@pw_and1 _ _ _ _ (@aU _ _ _ _ _ _ _ _ (uz K hu) (@fB _ _ _ _ _ (W9 (pv 3) (W9 (pv 4) af))) (pv 1) (by with_unfolding_all rfl))))) (Xl (@aY _ _ _ _ (Xg K PySem.F.plainAttrs_list PySem.F.slot_list_append PySem.F.type_list_append bJ (pv 2) (W9 (@fB _ _ _ _ _ (W9 (pv 3) (W9 (pv 4) (W9 (pv 5) af)))) af)) (XD))) aS))) (by intro _;rfl))) (by intro _;rfl)) (Xl (@aM _ _ _ _ (pv 2))))),?_⟩;refine⟨aC Xy,fun b hb=>?_⟩;have C2:=C1.keep (au.upd (o:= .lst []) hb);refine⟨_,rfl,a,_,0,_,rfl,rfl, .of C2.ca,ax (j:=0) rfl,x1,_,rfl, .inl (.of C2.fi),((c.xs.map V.str).length:Int),rfl,XB,XB,?_⟩;refine g_ (fun i σ H'=>(∃u1 u2 u3,σ=[some (.ref a),some (.ref s0),some (.ref b),u1,u2,u3])∧au H H'∧∃xs,H' b=some (.lst xs)∧BF H' xs (lb c sh i)) ⟨⟨_,_,_,rfl⟩,au.upd hb,[],ae, .nil⟩ ?_ ?_
  ·rintro i σ H' hi ⟨⟨u1,u2,u3,rfl⟩,s1,xs,kF,S1⟩;have hi:i<c.xs.length:=by rw[lx]at hi;omega
   have C3:=C1.keep s1;refine⟨_,rfl,a,_,1,_,rfl,rfl, .of C3.ca,ax (j:=1) rfl,x2,_,rfl, .inl (.of C3.se),((c.ys.map V.str).length:Int),rfl,XB,XB,?_⟩;refine g_ (fun j σ H'=>(∃u2 u3,σ=[some (.ref a),some (.ref s0),some (.ref b),some (.int (0+(i:Int))),u2,u3])∧au H H'∧∃xs,H' b=some (.lst xs)∧BF H' xs (lb c sh i++mU c sh i j)) ⟨⟨_,_,rfl⟩,s1,xs,kF,by rw[mU,List.append_nil];exact S1⟩ ?_ ?_
   ·clear s1 kF S1 xs u1 u2 u3 C3 H';rintro j σ H' hj ⟨⟨u2,u3,rfl⟩,s1,xs,kF,S1⟩;have hj:j<c.ys.length:=by rw[ly]at hj;omega
    have C3:=C1.keep s1;obtain⟨x,n8,Ap⟩:=Gu (xs:=c.xs) (i:=0+(i:Int)) (XB) (XB);obtain⟨y,Ke,GQ⟩:=Gu (xs:=c.ys) (i:=0+(j:Int)) (XB) (XB);have ez:(0+(i:Int),0+(j:Int))=aK (i,j):=Prod.ext (by simp[aK]) (by simp[aK]);have ep:c.pw (aK (i,j))=dI c.same c.fs x y:=by rw[←ez];exact Case.pw_of n8 Ke
    have sl:=S1.1;have l1:=vo c sh i;have l2:=rl c sh i j;have l3:i*c.ys.length≤50*50:=Nat.mul_le_mul Xz hy;rw[List.length_append]at sl;refine⟨_,rfl,a,_,0,_,rfl,rfl, .of C3.ca,ax (j:=0) rfl,_,rfl,x1,_,_,_,rfl,rfl, .of C3.fi,Ap,_,rfl,a,_,1,_,rfl,rfl, .of C3.ca,ax (j:=1) rfl,_,rfl,x2,_,_,_,rfl,rfl, .of C3.se,GQ,_,rfl,a,_,2,_,rfl,rfl, .of C3.ca,ax (j:=2) rfl,m,_,0,_,rfl,rfl, .of C3.nu,ax (j:=0) rfl,_,rfl,a,_,3,_,rfl,rfl, .of C3.ca,ax (j:=3) rfl,x,y,c.same,l,us,c.fs,rfl,C3.ne,C3.tr,?_⟩;rw[←ep];refine⟨_,rfl,_,rfl,?_⟩;cases e:c.pw (aK (i,j))with
    |none=>
     refine ba (fun hh=>absurd hh (by simp[bC])) (fun _=>?_);refine jD ?_;refine⟨⟨_,_,rfl⟩,s1,xs,kF,?_⟩;have:X0 c sh (aK (i,j))=none:=by unfold X0;split;rfl;exact e
     rw[mU,this,List.append_nil];exact S1
    |some w=>
     refine ba (fun _=>?_) (fun hh=>absurd (by simp[bC]) hh);refine⟨_,rfl,_,rfl,aC Xy,fun p hp=>?_⟩;have s2:=s1.trans (au.upd (o:= .tup [.int (0+(i:Int)), .int (0+(j:Int))]) hp);have wC:=au.upd (o:= .tup [.int (0+(i:Int)), .int (0+(j:Int))]) hp _ _ kF;have S2:=S1.cq (d6.same (au.upd (o:= .tup [.int (0+(i:Int)), .int (0+(j:Int))]) hp));refine⟨_,rfl,p,s0,(0+(i:Int),0+(j:Int)),ws,sh,rfl,rfl,ae, .of (s2 _ _ hs),P1.same s2,_,rfl,?_⟩;generalize upd H' p (.tup [.int (0+(i:Int)), .int (0+(j:Int))])=H2 at s2 wC S2;rw[ez];refine ba (fun h1=>?_) (fun h1=>?_)
     ·have h1:aK (i,j)∉sh:=by simpa using h1
      refine⟨_,rfl, .inl ⟨rfl,_, .of wC⟩,_,rfl,_,rfl,_,rfl,aC Xy,fun t ht=>⟨b,xs,_,rfl,rfl,au.upd ht _ _ wC,a_ Xz,⟨_,_,rfl⟩,(s2.trans (au.upd ht)).fD hb,_,ae,?_⟩⟩;have e2:X0 c sh (aK (i,j))=some w:=by unfold X0;rw[Xm h1];exact e
      rw[mU,e2,←List.append_assoc];have S3:BF (upd H2 t (.tup [.int (0+(i:Int)), .int (0+(j:Int)), .int w])) (xs++[.ref t]) ((lb c sh i++mU c sh i j)++[(aK (i,j),w)]):=(S2.cq (d6.same (au.upd ht))).snoc (by rw[←ez];exact ae);exact S3.cq (d6.lst (au.upd ht _ _ wC))
     ·have h1:aK (i,j)∈sh:=by simpa using h1
      refine⟨⟨_,_,rfl⟩,s2,xs,wC,?_⟩;have:X0 c sh (aK (i,j))=none:=by unfold X0;rw[Xp h1]
      rw[mU,this,List.append_nil];exact S2
   ·rintro σ H2 ⟨⟨u2,u3,rfl⟩,s2,DU,wC,S2⟩;rw[ly,Int.toNat_natCast]at S2;exact⟨⟨_,_,_,rfl⟩,s2,DU,wC,S2⟩
  ·rintro σ H2 ⟨⟨u1,u2,u3,rfl⟩,s2,DU,wC,S2⟩;rw[lx,Int.toNat_natCast]at S2;exact⟨_,rfl,q _ b _ s2 hb wC S2⟩
variable(n6:cc P w K mg base true 8 "compare" ["first","second","terms"] (wD aQ aB lg))
variable(jr:cc P w K mg base true 7 "_law_terms" ["_law_case_here"] (qT aQ))
theorem uN:aJ ["_law_case_here"] ["_law_case_here"] (aq lP):=⟨rfl,rfl,rfl,by decide+kernel,rfl,by decide+kernel,by decide+kernel⟩
include T n6 jr in
theorem uO{f:Addr}{fd:FuncData}(F:lD K "_law_asked" "_law_asked" lP f fd):a8 P w K mg base (dq P w) true 9 f fd ["_law_case_here"] (wG aB):=by
 refine F.iW uN XA (fun cj A outer s H vs Q E hr h hX=>?_)
 ·obtain⟨a,c,f,g,m,l,us,most,rfl,_⟩:=h;rfl
 ·obtain⟨a,c,x1,x2,m,l,us,most,rfl,C1,ok,hm,q⟩:=h;refine⟨_,(Xl (@aM _ _ _ _ (W' n6 aR (W9 (@hG _ _ _ _ _ _ _ _ _ (iC K) (by exact rfl) T.qQ PyProof.Rows.Boot.«list» (W9 (Xb (ar K) (pv 0) aj) af) (XC) (XC) (XD) (XD)) (W9 (@hG _ _ _ _ _ _ _ _ _ (iC K) (by exact rfl) T.qQ PyProof.Rows.Boot.«list» (W9 (Xb (ar K) (pv 0) aj) af) (XC) (XC) (XD) (XD)) (W9 (W' jr aR (W9 (pv 0) af)) af)))))),?_⟩;have uL:=C1.ca;refine⟨_,rfl,a,_,0,_,rfl,rfl, .of uL,ax (j:=0) rfl,x1,_,rfl, .inl (.of C1.fi),fun y1 Ke=>?_⟩;have s1:=au.upd (o:= .lst ((cx c).xs.map V.str)) Ke;have QY:=s1 _ _ uL;refine⟨_,rfl,a,_,1,_,rfl,rfl, .of QY,ax (j:=1) rfl,x2,_,rfl, .inl (.of (s1 _ _ C1.se)),fun y2 GQ=>?_⟩;have s2:=s1.trans (au.upd (o:= .lst ((cx c).ys.map V.str)) GQ);refine⟨_,rfl,a,cx c,x1,x2,m,l,us,most,rfl,C1.keep s2,ok,fun H3 t s3 TF=>?_⟩;have JE:=s2.trans s3;have SV:=ok.x;have SW:=ok.y;refine⟨y1,y2,t,cx c,rfl,s3 _ _ (au.upd GQ _ _ ae),s3 _ _ ae,TF,XB,XB,fun es TD H4 r vs s4 hr h4 FL=>?_,fun ds f2 RC hl H4 s4=>?_⟩
  ·exact q es TD H4 r vs (JE.trans s4) (JE.free hr) h4 (FL.keep (fun _ _ _ h=>h) (fun _ _ h=>h) fun b hb=>JE.free hb)
  ·have:=DN ok RC;omega
variable(ki:cc P w K mg base true 3 "_law_case" ["_law_script","_law_most"] (v_ K))
variable(kj:cc P w K mg base true 2 "_law_calm" ["_law_case_here"] wF)
variable(jt:cc P w K mg base true 9 "_law_asked" ["_law_case_here"] (wG aB))
variable(ju:cc P w K mg base true 2 "_law_pairs" ["_law_found"] qU)
variable(jv:cc P w K mg base true 2 "_law_spots" ["_law_case_here","_law_shut"] t_)
theorem kI:aJ ["_law_script","_law_case_here","_law_told","_law_held","_law_k","_law_one","_law_pair_here","_law_i","_law_j","_law_gain"] ["_law_script"] (aq rY):=⟨rfl,rfl,rfl,by decide+kernel,rfl,by decide+kernel,by decide+kernel⟩
include T Fc bu a7 cA ki kj jt ju jv in
theorem JL{f:Addr}{fd:FuncData}(F:lD K "law" "law" rY f fd):a8 P w K mg base (dq P w) true 10 f fd ["_law_script"] (Y8 K):=by
 refine F.iW kI XA (fun cj A outer s H vs Q E hr h hX=>?_)
 ·obtain⟨a,ns,rfl,_⟩:=h;rfl
 ·obtain⟨a,ns,rfl,hS,hlen,q⟩:=h;have hu:=hr.units;have hu:(A.deeper (PyProof.Rows.envOfC "law" (aq rY) s.heap.objs.size f cj)).units+1<cLine:=XB;have Mu:=Nat.lt_of_succ_lt hu;refine⟨_,(Xn (W_ (1) kI.nd (W' kj aR (W9 (W' ki aR (W9 (pv 0) (W9 (Xb (ar K) (@bR _ _ _ _ (W9 aj (W9 aj (W9 aj (W9 aj af))))) (Xf bK (W' a7 aR (W9 (pv 0) (W9 aj af))) aj)) af))) af))) (Xn (W_ (2) kI.nd (W' jt aR (W9 (pv 1) af))) (Xn (Xq (@PW.pt _ _ _ (@pw_or _ _ _ _ _ _ _ (@g8 _ _ _ _ (@eM _ _ _ (W' cA aR (W9 (@eC _ _ _ _ bu (XD) (XC)) af)) (by intro _;rfl))) (@pw_or1 _ _ _ _ (@aU _ _ _ _ _ _ _ _ BQ (@eC _ _ _ _ bu (XD) (XC)) aj (aW _))))) (Xl (@aM _ _ _ _ ja)) aS) (Xn (Xq (@PW.pt _ _ _ (@pw_or _ _ _ _ _ _ _ (@g8 _ _ _ _ (@eM _ _ _ (Xe (k8 K) (by exact rfl) T.gi PyProof.Rows.Boot.«isinstance» (W9 (pv 2) (W9 (@pF _ _ (.ty "list") _ _ Xw T.qQ PyProof.Rows.Boot.«list» Xw (XC) (XC)) af))) (by intro _;rfl))) (@pw_or1 _ _ _ _ (@aU _ _ _ _ _ _ _ _ om (Xe (aP K) (by exact rfl) T.fz PyProof.Rows.Boot.«len» (W9 (pv 2) af)) aj (aW _))))) (Xl (@aM _ _ _ _ ja)) aS) (Xn (W_ (3) kI.nd kX) (Xn (@b_ _ _ _ _ _ _ _ _ hX.own Xw (@f7 _ _ _ _ _ _ Xw T.iD (W9 (Xe (aP K) (by exact rfl) T.fz PyProof.Rows.Boot.«len» (W9 (pv 2) af)) af) (XD)) (Xa (4) kI.nd (Or.inl rfl)) (Xn (W_ (5) kI.nd (Xb (ar K) (pv 2) (pv 4))) (Xn (Xq (@PW.pt _ _ _ (@pw_or _ _ _ _ _ _ _ (@g8 _ _ _ _ (@eM _ _ _ (W' cA aR (W9 (Xd K (pv 5)) af)) (by intro _;rfl))) (@pw_or _ _ _ _ _ _ _ (@g8 _ _ _ _ (@eM _ _ _ (W' ju aR (W9 (Xd K (pv 5)) af)) (by intro _;rfl))) (@pw_or1 _ _ _ _ (@aU _ _ _ _ _ _ _ _ (ZR K Mu) (Xd K (pv 5)) (@bR _ _ _ _ af) (aW _)))))) (Xl (@aM _ _ _ _ ja)) aS) (Xn (Xq (@aU _ _ _ _ _ _ _ _ rM (Xd K (pv 5)) (Xb (ar K) (Xb (ar K) (pv 1) aj) aj) (aW _)) (Xl (@aM _ _ _ _ ja)) aS) (Xn (@b_ _ _ _ _ _ _ _ _ hX.own Xw (@bE _ K _ _ _ (Xd K (pv 5)) (XD)) (Xa (6) kI.nd (Or.inl rfl)) (Xn (Xq (Xi (@qN _ _ _ _ _ hu (pv 6) (pv 3))) (Xl (@aM _ _ _ _ ja)) aS) (Xl (@lB _ _ _ _ _ _ _ _ _ hu (pv 3) (pv 6) ja Xw))) (by intro _;rfl)) (Xn (Xq (@PW.pt _ _ _ (@pw_and _ _ _ _ _ _ _ (@aU _ _ _ _ _ _ _ _ om (pv 4) aj (aW _)) (@pw_and1 _ _ _ _ (@aU _ _ _ _ _ _ _ _ om (Xd K (pv 5)) (Xd K (Xb (ar K) (pv 2) (Xf dM (pv 4) aj))) (aW _))))) (Xl (@aM _ _ _ _ ja)) aS) (Xl (Xq (@PW.pt _ _ _ (@pw_and _ _ _ _ _ _ _ (@aU _ _ _ _ _ _ _ _ om (pv 4) aj (aW _)) (@pw_and _ _ _ _ _ _ _ (@aU _ _ _ _ _ _ _ _ jA (Xd K (pv 5)) (Xd K (Xb (ar K) (pv 2) (Xf dM (pv 4) aj))) (aW _)) (@pw_and1 _ _ _ _ (@aU _ _ _ _ _ _ _ _ (Br K (Nat.lt_of_succ_lt hu)) (Xb (ar K) (Xd K (pv 5)) aj) (Xb (ar K) (Xd K (Xb (ar K) (pv 2) (Xf dM (pv 4) aj))) aj) (aW _)))))) (Xl (@aM _ _ _ _ ja)) aS))))))) (by intro _;rfl)) (Xn (@b_ _ _ _ _ _ _ _ _ hX.own Xw (@bE _ K _ _ _ (W' jv aR (W9 (pv 1) (W9 (@bR _ _ _ _ af) af))) (XD)) (@jf _ K _ _ _ (3) _ Xw (@br _ _ _ _ _ (Xa (7) kI.nd (Or.inl rfl)) (@br _ _ _ _ _ (Xa (8) kI.nd (Or.inl rfl)) (@br _ _ _ _ _ (Xa (9) kI.nd (Or.inl rfl)) jd (XD)) (XD)) (XD)) (XD) (XD) (XD)) (Xl (Xq (@PW.pt _ _ _ (@pw_and _ _ _ _ _ _ _ (@aU _ _ _ _ _ _ _ _ F6 (pv 9) (Xb (ar K) (Xb (ar K) (pv 1) aj) aj) (aW _)) (@pw_and1 _ _ _ _ (Xi (@uZ _ _ _ _ _ hu (@fB _ _ _ _ _ (W9 (pv 7) (W9 (pv 8) af))) (pv 3)))))) (Xl (@aM _ _ _ _ ja)) aS)) (by intro _;rfl)) (Xl (@aM _ _ _ _ ja))))))))),?_⟩;refine⟨fun σ H1=>∃(b:Addr)(c:Case)(x1 x2 m l:Addr)(us:List V),σ=[some (.ref a),some (.ref b),none,none,none,none,none,none,none,none]∧au H H1∧oA H1 b (cx c) x1 x2 m l us∧i4 40 (cx c),?_,?_⟩
  ·obtain⟨mo,As,hm⟩:=int_at [12,40,12,12] (i:=cell ns 12%4) (XB) (show cell ns 12%4<(4:Int) by omega);have Ec:mo=12∨mo=40:=by simp at As;omega
   refine⟨_,rfl,aC Xy,fun p hp=>⟨_,rfl,a,ns,12,rfl,(au.upd hp).seq hS,XC,_,_,rfl,rfl,(show(0:Int)<4 by decide),p,_,_,_,rfl,rfl, .of ae,by simpa using hm,a,ns,mo,rfl,(au.upd hp).seq hS,XB,XB,fun H1 b c x1 x2 m l us s1 hb C1 ok=>?_⟩⟩;have hx:=ok.x;have hy:=ok.y;have QZ:i4 60 c:=⟨XB,XB,ok.good,ok.same,ok.out,ok.into,ok.least⟩
   have Q0:i4 40 c:=⟨XB,XB,ok.good,ok.same,ok.out,ok.into,ok.least⟩
   exact⟨b,c,x1,x2,m,l,us,rfl,C1,QZ,fun H2 b2 m2 s2 wC uj C2=>⟨b2,c,x1,x2,m2,l,us,rfl,((au.upd hp).trans s1).trans s2,C2,An Q0 Xz⟩⟩
  rintro σ H1 ⟨b,c,x1,x2,m,l,us,rfl,s1,C1,ok⟩;have SV:=ok.x;have SW:=ok.y;refine⟨fun σ H3=>∃(t:Addr)(vs:List V)(es:List Fd),σ=[some (.ref a),some (.ref b),some (.ref t),none,none,none,none,none,none,none]∧au H1 H3∧H3 t=some (.lst vs)∧cz (fun _=>True) H3 aB vs es∧dh (mQ (cx c) []) (cx c).out (cx c).into (cx c).least es,?_,?_⟩
  ·exact⟨_,rfl,b,c,x1,x2,m,l,us,40,rfl,C1,ok,XB,fun es TD H3 t vs s3 _ h3 FL=>⟨t,vs,es,rfl,s3,h3,FL.keep (fun _ _ _ h=>h) (fun _ _ h=>h) fun _ _=>trivial,TD⟩⟩
  generalize cx c=c at C1 ok SV SW;rintro σ H3 ⟨t,vs,es,rfl,s3,ht,FL,TD⟩;have C3:=C1.keep s3;have Wd:=FL.1;have wR:=TD.wR;refine⟨fun σ H4=>σ=[some (.ref a),some (.ref b),some (.ref t),none,none,none,none,none,none,none]∧H4=H3,?_,?_⟩
  ·refine⟨_,rfl,_,rfl,?_⟩;refine jD ?_;refine⟨rfl,_,rfl,?_⟩;refine jD ?_;exact⟨rfl,rfl⟩
  rintro σ H3 ⟨rfl,rfl⟩;refine⟨fun σ H4=>σ=[some (.ref a),some (.ref b),some (.ref t),none,none,none,none,none,none,none]∧H4=H3,?_,?_⟩
  ·refine⟨_,rfl,_,_,_,true,_,rfl,rfl, .lst ht,rfl,_,rfl,?_⟩;refine jD ?_;refine⟨_,rfl,t,_,rfl, .inl (.of ht),_,_,rfl,rfl,_,rfl,?_⟩;refine ba (fun hh=>absurd hh (by simp;omega)) (fun _=>?_);exact⟨rfl,rfl⟩
  rintro σ H3 ⟨rfl,rfl⟩;refine⟨fun σ H4=>∃d,σ=[some (.ref a),some (.ref b),some (.ref t),some (.ref d),none,none,none,none,none,none]∧au H3 H4∧H3 d=none∧H4 d=some (.dT []),fun d hd=>⟨d,rfl,au.upd hd,hd,ae⟩,?_⟩;rintro σ H4 ⟨D,rfl,s4,Kf,hD⟩;refine⟨fun σ H5=>(∃u1 u2 u3,σ=[some (.ref a),some (.ref b),some (.ref t),some (.ref D),u1,u2,u3,none,none,none])∧au H3 H5∧∃kvs,H5 D=some (.dT kvs)∧oB kvs (mV es es.length),?_,?_⟩
  ·refine⟨_,rfl,t,_,rfl, .inl (.of (s4 _ _ ht)),_,rfl,XB,XB,?_⟩;refine g_ (fun k σ H5=>(∃u1 u2 u3,σ=[some (.ref a),some (.ref b),some (.ref t),some (.ref D),u1,u2,u3,none,none,none])∧au H3 H5∧∃kvs,H5 D=some (.dT kvs)∧kvs.length≤(mV es k).length∧oB kvs (mV es k)) ⟨⟨_,_,_,rfl⟩,s4,[],hD,Nat.zero_le _,fun p=>by simp[tw,mV]⟩ ?_ ?_
   ·rintro k σ H5 hk ⟨⟨u1,u2,u3,rfl⟩,s5,kvs,Ed,Qb,Kr⟩;have hk:k<es.length:=by rw[←Wd];have:k<((vs.length:Nat):Int).toNat:=hk;omega
    have ek:es[k]?=some es[k]:=by simp[hk]
    generalize es[k]=d at ek;obtain⟨y,dy,wy,oq,pr,rT,j4,e1,F3⟩:=FL.2 k d ek;have su:=TD.su d (Xj ek);have FQ:∀{j:Nat}{v},vs[j]?=some v→sP vs (0+(j:Int))=some v:=fun{j v} h=>by rw[Int.zero_add];exact ax h
    refine⟨fun σ H6=>σ=[some (.ref a),some (.ref b),some (.ref t),some (.ref D),some (.int (0+(k:Int))),some (.ref y),u3,none,none,none]∧H6=H5,⟨_,rfl,_,rfl,t,_,_,_,rfl,rfl, .of (s5 _ _ ht),FQ e1,rfl,rfl⟩,?_⟩;rintro σ H6 ⟨rfl,rfl⟩;have F:rX (fun _=>True) H6 aB y d dy wy oq pr rT j4:=F3.keep (fun b o _ e=>s5 b o e) (d6.same s5) fun _ h=>h
    have Q2:j4≠[]:=fun z=>TD.ne d (Xj ek) (List.length_eq_zero_iff.mp (by rw[←F.pp.1,z];rfl))
    refine⟨fun σ H7=>σ=[some (.ref a),some (.ref b),some (.ref t),some (.ref D),some (.int (0+(k:Int))),some (.ref y),u3,none,none,none]∧au H6 H7,?_,?_⟩
    ·refine⟨_,rfl,y,aB,dy,_,_,rfl,F.ob,Fc.cl,Fc.worth,jI d.worth wy oq pr,_,rfl,_,rfl,?_⟩;refine jD ?_;refine⟨_,rfl,y,aB,dy,_,_,rfl,F.ob,Fc.cl,Fc.pairs,jJ d.worth wy oq pr,pr,j4,d.pairs,rfl,F.hp,F.pp,_,rfl,?_⟩;refine jD ?_;refine⟨_,rfl,y,aB,dy,_,_,rfl,F.ob,Fc.cl,Fc.pairs,jJ d.worth wy oq pr,aC Xy,fun e he=>⟨pr,e,j4,[],fun _=>true,rfl,rfl, .of (au.upd he _ _ F.hp), .of ae,(fun j x y _ h=>by simp at h),_,rfl,?_⟩⟩;refine ba (fun hh=>absurd hh (by simpa using Q2)) (fun _=>?_);exact⟨rfl,au.upd he⟩
    rintro σ H7 ⟨rfl,s7⟩;have Oe:=s5.trans s7;have F:=F.keep (P':=fun _=>True) (fun b o _ e=>s7 b o e) (d6.same s7) fun _ h=>h
    have Ko:=s7 _ _ Ed;have C7:=C3.keep Oe;have uL:=C7.ca;refine⟨fun σ H8=>σ=[some (.ref a),some (.ref b),some (.ref t),some (.ref D),some (.int (0+(k:Int))),some (.ref y),u3,none,none,none]∧H8=H7,?_,?_⟩
    ·refine⟨_,rfl,y,aB,dy,_,_,rfl,F.ob,Fc.cl,Fc.worth,jI d.worth wy oq pr,_,rfl,b,_,2,_,rfl,rfl, .of uL,ax (j:=2) rfl,m,_,3,_,rfl,rfl, .of C7.nu,ax (j:=3) rfl,_,_,rfl,rfl,_,rfl,?_⟩;have:=su.least;refine ba (fun hh=>absurd hh (by simp;omega)) (fun _=>?_);exact⟨rfl,rfl⟩
    rintro σ H7 ⟨rfl,rfl⟩;have nd:=rk su.sV;have pl:=TD.Jx ok (k+1);rw[Yz ek,List.length_append]at pl;have FF:∀{H'},au H3 H'→rX (fun _=>True) H' aB y d dy wy oq pr rT j4:=fun{H'} s'=>F3.keep (fun b o _ e=>s' b o e) (d6.same s') fun _ h=>h
    refine⟨fun σ H8=>(∃u3,σ=[some (.ref a),some (.ref b),some (.ref t),some (.ref D),some (.int (0+(k:Int))),some (.ref y),u3,none,none,none])∧au H3 H8∧∃kvs,H8 D=some (.dT kvs)∧kvs.length≤(mV es (k+1)).length∧oB kvs (mV es (k+1)),?_,?_⟩
    ·refine⟨_,rfl,y,aB,dy,_,_,rfl,F.ob,Fc.cl,Fc.pairs,jJ d.worth wy oq pr,pr,rfl,⟨_, .of F.hp⟩,?_⟩;refine cD (xs:=j4) (fun i σ H8=>(∃u3,σ=[some (.ref a),some (.ref b),some (.ref t),some (.ref D),some (.int (0+(k:Int))),some (.ref y),u3,none,none,none])∧au H3 H8∧∃kvs,H8 D=some (.dT kvs)∧kvs.length≤(mV es k).length+i∧oB kvs (mV es k++d.pairs.take i)) ⟨⟨_,rfl⟩,Oe,kvs,Ko,XB,by simpa using Kr⟩ ?_ ?_ ?_
     ·rintro i σ H8 _ ⟨_,s8,_⟩;exact .of (FF s8).hp
     ·rintro i v σ H8 hv ⟨⟨u,rfl⟩,s8,Bu,G_,JM,FT⟩;have hi:i<d.pairs.length:=by rw[←F3.pp.1];exact(Xc hv).1
      have ei:d.pairs[i]?=some d.pairs[i]:=by simp[hi]
      generalize d.pairs[i]=g at ei;obtain⟨tt,g1,g2⟩:=F3.pp.2 i g ei;rw[hv]at g1;cases g1;have hn:g∉mV es k++d.pairs.take i:=fun z=>(List.mem_append.mp z).elim (TD.Fv ek (Xj ei)) (Fw nd ei)
      refine⟨fun σ H9=>σ=[some (.ref a),some (.ref b),some (.ref t),some (.ref D),some (.int (0+(k:Int))),some (.ref y),some (.ref tt),none,none,none]∧H9=H8,?_,?_⟩
      ·refine⟨_,rfl,_,rfl,D,_,rfl, .t (k:=aZ g) G_ (s8 _ _ g2),_,rfl,?_⟩;rw[FT];exact ba (fun hh=>absurd (by simpa using hh) hn) (fun _=>⟨rfl,rfl⟩)
      rintro σ H9 ⟨rfl,rfl⟩;refine⟨_,rfl,_,rfl,D,_,rfl, .t (k:=aZ g) G_ (s8 _ _ g2) (a_ Xz),⟨_,rfl⟩,s8.fD Kf,_,ae,Nat.le_trans (eO _ _ _) (XB),?_⟩;have:=DR FT g (.bl true);rw[List.append_assoc]at this;rw[List.take_succ,ei];exact this
     ·rintro σ H8 ⟨Q3,s8,Bu,G_,JM,FT⟩;rw[F3.pp.1]at JM;rw[F3.pp.1,List.take_length]at FT;rw[Yz ek];exact⟨Q3,s8,Bu,G_,by rw[List.length_append];exact JM,FT⟩
    rintro σ H8 ⟨⟨u4,rfl⟩,s8,Bu,G_,JM,FT⟩;have F:=FF s8;have Q4:=s8 _ _ ht;refine⟨fun σ H9=>σ=[some (.ref a),some (.ref b),some (.ref t),some (.ref D),some (.int (0+(k:Int))),some (.ref y),u4,none,none,none]∧H9=H8,?_,?_⟩
    ·refine⟨_,rfl,_,_,rfl,rfl,_,rfl,?_⟩;refine ba (fun h1=>?_) (fun _=>jD ⟨rfl,rfl⟩);have h1:0<k:=by
      have:(0:Int)<0+(k:Int):=by simpa using h1
      omega
     obtain⟨j,rfl⟩:∃j,k=j+1:=⟨k-1,XB⟩
     have ej:es[j]?=some es[j]:=by simp[show j<es.length by omega]
     generalize es[j]=d2 at ej;obtain⟨y2,Of,Og,Oh,MR,We,Wf,e2,F2⟩:=FL.2 j d2 ej;have F2:=F2.keep (P':=fun _=>True) (fun b o _ e=>s8 b o e) (d6.same s8) fun _ h=>h
     have FU:sP vs (0+((j+1:Nat):Int)-1)=some (.ref y2):=by rw[show 0+((j+1:Nat):Int)-1=(j:Int) by omega];exact ax e2
     refine⟨_,rfl,y,aB,dy,_,_,rfl,F.ob,Fc.cl,Fc.worth,jI d.worth wy oq pr,_,rfl,_,rfl,_,_,rfl,rfl,t,_,_,_,rfl,rfl, .of Q4,FU,y2,aB,Of,_,_,rfl,F2.ob,Fc.cl,Fc.worth,jI d2.worth Og Oh MR,_,_,rfl,rfl,_,rfl,?_⟩;have:=Jy (TD.next ej ek);exact ba (fun hh=>absurd hh (by simp;omega)) (fun _=>⟨rfl,rfl⟩)
    rintro σ H8 ⟨rfl,rfl⟩;refine⟨_,rfl,_,_,rfl,rfl,_,rfl,?_⟩;refine ba (fun h1=>?_) (fun _=>jD ⟨⟨_,_,_,rfl⟩,s8,Bu,G_,JM,FT⟩);have h1:0<k:=by
     have:(0:Int)<0+(k:Int):=by simpa using h1
     omega
    obtain⟨j,rfl⟩:∃j,k=j+1:=⟨k-1,XB⟩
    have ej:es[j]?=some es[j]:=by simp[show j<es.length by omega]
    generalize es[j]=d2 at ej;obtain⟨y2,Of,Og,Oh,MR,We,Wf,e2,F2⟩:=FL.2 j d2 ej;have F2:=F2.keep (P':=fun _=>True) (fun b o _ e=>s8 b o e) (d6.same s8) fun _ h=>h
    have FU:sP vs (0+((j+1:Nat):Int)-1)=some (.ref y2):=by rw[show 0+((j+1:Nat):Int)-1=(j:Int) by omega];exact ax e2
    refine⟨_,rfl,y,aB,dy,_,_,rfl,F.ob,Fc.cl,Fc.worth,jI d.worth wy oq pr,_,rfl,_,rfl,_,_,rfl,rfl,t,_,_,_,rfl,rfl, .of Q4,FU,y2,aB,Of,_,_,rfl,F2.ob,Fc.cl,Fc.worth,jI d2.worth Og Oh MR,rfl,_,rfl,?_⟩;refine ba (fun h2=>?_) (fun _=>jD ⟨⟨_,_,_,rfl⟩,s8,Bu,G_,JM,FT⟩);have h2:d.worth=d2.worth:=by simpa using h2
    obtain⟨tp,p1,p2⟩:=F.fst (TD.ne d (Xj ek));obtain⟨tq,q1,q2⟩:=F2.fst (TD.ne d2 (Xj ej));refine⟨_,rfl,y,aB,dy,_,_,rfl,F.ob,Fc.cl,Fc.pairs,jJ d.worth wy oq pr,pr,_,0,_,rfl,rfl, .of F.hp,ax (j:=0) p1,_,rfl,_,rfl,_,_,rfl,rfl,t,_,_,_,rfl,rfl, .of Q4,FU,y2,aB,Of,_,_,rfl,F2.ob,Fc.cl,Fc.pairs,jJ d2.worth Og Oh MR,MR,_,0,_,rfl,rfl, .of F2.hp,ax (j:=0) q1,tp,tq,_,_,rfl,rfl,p2,q2,_,rfl,?_⟩;rw[Jz (TD.next ej ek) h2];exact jD ⟨⟨_,_,_,rfl⟩,s8,Bu,G_,JM,FT⟩
   ·rintro σ H5 ⟨Q3,s5,kvs,Ed,_,Kr⟩;rw[show((vs.length:Nat):Int).toNat=es.length by omega]at Kr;exact⟨Q3,s5,kvs,Ed,Kr⟩
  rintro σ H5 ⟨⟨u1,u2,u3,rfl⟩,s5,kvs,Ed,Kr⟩;refine⟨fun σ H4=>True,?_,fun σ H4 _=>q _⟩;refine⟨_,rfl,aC Xy,fun e he=>?_⟩;have s6:=s5.trans (au.upd (o:= .lst []) he);refine⟨b,e,c,x1,x2,m,l,us,[],[],rfl,C3.keep s6,ae, .nil,XB,XB,fun H7 r ws s7 rZ h7 S7=>⟨r,rfl,⟨_, .of h7⟩,?_⟩⟩;have Oe:=s6.trans s7;have Ko:=s7 _ _ (au.upd (o:= .lst []) he _ _ Ed);refine cD (xs:=ws) (fun k σ H8=>(∃v1 v2 v3,σ=[some (.ref a),some (.ref b),some (.ref t),some (.ref D),u1,u2,u3,v1,v2,v3])∧au H7 H8) ⟨⟨_,_,_,rfl⟩, .refl _⟩ ?_ ?_ (fun _ _ _=>trivial)
  ·rintro k σ H8 _ ⟨_,s8⟩;exact .of (s8 _ _ h7)
  ·rintro k v σ H8 hv ⟨⟨v1,v2,v3,rfl⟩,s8⟩;have hk:k<(lb c [] c.xs.length).length:=by rw[←S7.1];exact(Xc hv).1
   have ek:(lb c [] c.xs.length)[k]?=some (lb c [] c.xs.length)[k]:=by simp[hk]
   generalize (lb c [] c.xs.length)[k]=x at ek;obtain⟨tt,k1,k2⟩:=S7.2 k x ek;rw[hv]at k1;cases k1;have Wg:=vq (Xj ek);have C8:=C3.keep (Oe.trans s8);have uL:=C8.ca;refine⟨tt,_,rfl, .of (s8 _ _ k2),rfl,_,_,rfl,_,_,rfl,_,_,rfl,rfl,?_⟩;refine⟨_,rfl,_,rfl,b,_,2,_,rfl,rfl, .of uL,ax (j:=2) rfl,m,_,3,_,rfl,rfl, .of C8.nu,ax (j:=3) rfl,_,_,rfl,rfl,_,rfl,?_⟩;refine ba (fun h1=>?_) (fun _=>?_)
   ·have h1:c.least≤x.2:=by simpa using h1
    refine⟨_,rfl,_,rfl,aC Xy,fun p hp=>⟨_,rfl,D,_,rfl, .t (k:=aZ x.1) (au.upd hp _ _ (s8 _ _ Ko)) ae,_,rfl,?_⟩⟩;rw[Kr];obtain⟨d,hd,hq⟩:=TD.pair Wg h1;refine ba (fun hh=>absurd hh (by simp;exact Jw hd hq)) (fun _=>?_);exact⟨⟨_,_,_,rfl⟩,s8.trans (au.upd hp)⟩
   ·refine jD ?_;exact⟨⟨_,_,_,rfl⟩,s8⟩
end
theorem all_mk{l:W.OpenLaw}{w:World}{K:W.Frag}{h:Heap}{mg:Str→Option Value}{fa:Addr}(X:K.In h)(G:h.Ns mainGlobals mg)(Wh:mg "law"=some (.ref fa))
  {qj kn:Option Addr} {qk:Array (Option Value)} {ql ko kq kr gD ku:Value}
  {gE:Addr} {qm:Value} {qo:Option Addr} {qp:Nat} {qr:Array (Option Value)} {qt:Tok}
  {aQ:Addr} (qu:Mg K "Terms" aQ)
  {az:Addr} (m9:Mg K "Trails" az)
  {aB:Addr} (lu:Mg K "Finding" aB)
  {aF:Addr} (m_:Mg K "Groups" aF)
  {ay:Addr} (iV:Mg K "Gathering" ay)
  {kx:Addr} (gF:W.nsIn K mainGlobals "is_small_letter"=some (some (.ref kx)))
  (gG:gk K "is_small_letter" "is_small_letter" gm kx)
  {vt:Addr} (rq:W.nsIn K mainGlobals "is_word"=some (some (.ref vt)))
  (rz:gk K "is_word" "is_word" nW vt)
  {qv:Addr} (lT:W.nsIn K mainGlobals "is_between"=some (some (.ref qv)))
  (lU:gk K "is_between" "is_between" lJ qv)
  {nc:Addr} (jQ:W.nsIn K mainGlobals "check_number"=some (some (.ref nc)))
  (jR:gk K "check_number" "check_number" jL nc)
  {ky:Addr} (gH:W.nsIn K mainGlobals "check_near_form"=some (some (.ref ky)))
  (gI:gk K "check_near_form" "check_near_form" gq ky)
  {oF:Addr} (kJ:W.nsIn K mainGlobals "near_prices"=some (some (.ref oF)))
  (kK:gk K "near_prices" "near_prices" iF oF)
  {fv:Addr} (hZ:W.findIn K (.ref aQ) "__init__"=some (some (.ref fv))) (h_:W.isFn K (.ref fv)=true)
  (ic:K.lookup fv=some ⟨ql,qj, .func (W.fnOf "__init__" "Terms.__init__" (fo bh) (eA bh) (aq bh) (.ref gE) ko kq kr kn gD ku),qk⟩)
  (ie:W.codeIn K gD "Terms.__init__"=true) (ig:W.keepIn K (.ref fv)=true)
  (gJ:K.lookup gE=some ⟨qm,qo, .seq #[.int 50 qt, .none] qp,qr⟩)
  {fR:Addr} (fS:W.findIn K (.ref aQ) "pair_worth"=some (some (.ref fR))) (fT:W.isFn K (.ref fR)=true)
  (fU:gk K "pair_worth" "Terms.pair_worth" dP fR)
  {ug:Addr} (pe:W.nsIn K mainGlobals "greatest"=some (some (.ref ug)))
  (ph:gk K "greatest" "greatest" lK ug)
  {DV:Addr} (YH:W.nsIn K mainGlobals "less"=some (some (.ref DV)))
  (YT:gk K "less" "less" YK DV)
  {jS:Addr} (fV:W.nsIn K mainGlobals "begun_or_gone_on"=some (some (.ref jS)))
  (fW:gk K "begun_or_gone_on" "begun_or_gone_on" fN jS)
  {dC:Addr} (dD:W.findIn K (.ref az) "brought_behind"=some (some (.ref dC))) (dE:W.isFn K (.ref dC)=true)
  (dF:gk K "brought_behind" "Trails.brought_behind" dA dC)
  {gK:Addr} (gL:W.findIn K (.ref az) "__init__"=some (some (.ref gK))) (gM:W.isFn K (.ref gK)=true)
  (gN:gk K "__init__" "Trails.__init__" eE gK)
  {ij:Addr} (ik:W.findIn K (.ref az) "goes_on"=some (some (.ref ij))) (il:W.isFn K (.ref ij)=true)
  (ip:gk K "goes_on" "Trails.goes_on" hV ij)
  {dX:Addr} (dY:W.findIn K (.ref az) "is_brought_by"=some (some (.ref dX))) (dZ:W.isFn K (.ref dX)=true)
  (d0:gk K "is_brought_by" "Trails.is_brought_by" dQ dX)
  {cL:Addr} (cN:W.findIn K (.ref az) "crossings_before"=some (some (.ref cL))) (cO:W.isFn K (.ref cL)=true)
  (cP:gk K "crossings_before" "Trails.crossings_before" cK cL)
  {e8:Addr} (e_:W.findIn K (.ref az) "pair_before"=some (some (.ref e8))) (fe:W.isFn K (.ref e8)=true)
  (ff:gk K "pair_before" "Trails.pair_before" eU e8)
  {i6:Addr} (i7:W.findIn K (.ref az) "way_to"=some (some (.ref i6))) (i8:W.isFn K (.ref i6)=true)
  (i9:gk K "way_to" "Trails.way_to" i5 i6)
  {fX:Addr} (fY:W.findIn K (.ref aB) "__init__"=some (some (.ref fX))) (fZ:W.isFn K (.ref fX)=true)
  (f6:gk K "__init__" "Finding.__init__" fO fX)
  {uh:Addr} (pj:W.nsIn K mainGlobals "order_of"=some (some (.ref uh)))
  (px:gk K "order_of" "order_of" oV uh)
  {nh:Addr} (jT:W.nsIn K mainGlobals "make_finding"=some (some (.ref nh)))
  (jU:gk K "make_finding" "make_finding" eV nh)
  {gO:Addr} (gP:W.findIn K (.ref aF) "__init__"=some (some (.ref gO))) (gQ:W.isFn K (.ref gO)=true)
  (gR:gk K "__init__" "Groups.__init__" gu gO)
  {lV:Addr} (lW:W.findIn K (.ref aF) "has"=some (some (.ref lV))) (lX:W.isFn K (.ref lV)=true)
  (lY:gk K "has" "Groups.has" ji lV)
  {iq:Addr} (ir:W.findIn K (.ref aF) "take_in"=some (some (.ref iq))) (iu:W.isFn K (.ref iq)=true)
  (iw:gk K "take_in" "Groups.take_in" ft iq)
  {jV:Addr} (jW:W.findIn K (.ref aF) "unite"=some (some (.ref jV))) (jX:W.isFn K (.ref jV)=true)
  (jY:gk K "unite" "Groups.unite" eW jV)
  {kL:Addr} (kM:W.findIn K (.ref aF) "told"=some (some (.ref kL))) (kN:W.isFn K (.ref kL)=true)
  (kO:gk K "told" "Groups.told" iG kL)
  {fg:Addr} (fh:W.findIn K (.ref ay) "__init__"=some (some (.ref fg))) (fj:W.isFn K (.ref fg)=true)
  (fm:gk K "__init__" "Gathering.__init__" eX fg)
  {iy:Addr} (iz:W.findIn K (.ref ay) "mark"=some (some (.ref iy))) (iA:W.isFn K (.ref iy)=true)
  (iB:gk K "mark" "Gathering.mark" fu iy)
  {fE:Addr} (fF:W.findIn K (.ref ay) "go_over"=some (some (.ref fE))) (fG:W.isFn K (.ref fE)=true)
  (fH:gk K "go_over" "Gathering.go_over" dw fE)
  {gS:Addr} (gT:W.findIn K (.ref ay) "visit"=some (some (.ref gS))) (gU:W.isFn K (.ref gS)=true)
  (gW:gk K "visit" "Gathering.visit" eF gS)
  {oG:Addr} (kP:W.nsIn K mainGlobals "best_groups"=some (some (.ref oG)))
  (kQ:gk K "best_groups" "best_groups" kE oG)
  {vw:Addr} (rA:W.nsIn K mainGlobals "shut_by"=some (some (.ref vw)))
  (rB:gk K "shut_by" "shut_by" nX vw)
  {oH:Addr} (kR:W.nsIn K mainGlobals "open_worths"=some (some (.ref oH)))
  (kT:gk K "open_worths" "open_worths" fI oH)
  {qw:Addr} (lZ:W.nsIn K mainGlobals "make_round"=some (some (.ref qw)))
  (l0:gk K "make_round" "make_round" gv qw)
  {qx:Addr} (l5:W.nsIn K mainGlobals "shut_pairs"=some (some (.ref qx)))
  (l6:gk K "shut_pairs" "shut_pairs" lL qx)
  {vx:Addr} (rC:W.nsIn K mainGlobals "compare"=some (some (.ref vx)))
  (rD:gk K "compare" "compare" rm vx)
  {vy:Addr} (rE:W.nsIn K mainGlobals "_law_at"=some (some (.ref vy)))
  (rF:gk K "_law_at" "_law_at" rn vy)
  {qy:Addr} (l7:W.nsIn K mainGlobals "_law_whole"=some (some (.ref qy)))
  (l8:gk K "_law_whole" "_law_whole" lM qy)
  {r6:Addr} (ni:W.nsIn K mainGlobals "_law_bank"=some (some (.ref r6)))
  (nj:gk K "_law_bank" "_law_bank" mW r6)
  {r9:Addr} (nk:W.nsIn K mainGlobals "_law_book"=some (some (.ref r9)))
  (nq:gk K "_law_book" "_law_book" mY r9)
  {qz:Addr} (l_:W.nsIn K mainGlobals "_law_quote"=some (some (.ref qz)))
  (l':gk K "_law_quote" "_law_quote" jj qz)
  {nr:Addr} (jZ:W.nsIn K mainGlobals "_law_numbers"=some (some (.ref nr)))
  (j1:gk K "_law_numbers" "_law_numbers" gw nr)
  {r_:Addr} (ny:W.nsIn K mainGlobals "_law_near"=some (some (.ref r_)))
  (nz:gk K "_law_near" "_law_near" mZ r_)
  {sf:Addr} (nB:W.nsIn K mainGlobals "_law_case"=some (some (.ref sf)))
  (nC:gk K "_law_case" "_law_case" m3 sf)
  {sg:Addr} (nE:W.nsIn K mainGlobals "_law_pair"=some (some (.ref sg)))
  (nF:gk K "_law_pair" "_law_pair" m4 sg)
  {qA:Addr} (ma:W.nsIn K mainGlobals "_law_pairs"=some (some (.ref qA)))
  (me:gk K "_law_pairs" "_law_pairs" lN qA)
  {qB:Addr} (mf:W.nsIn K mainGlobals "_law_terms"=some (some (.ref qB)))
  (mh:gk K "_law_terms" "_law_terms" lO qB)
  {si:Addr} (nG:W.nsIn K mainGlobals "_law_calm"=some (some (.ref si)))
  (nH:gk K "_law_calm" "_law_calm" m6 si)
  {qC:Addr} (mi:W.nsIn K mainGlobals "_law_spots"=some (some (.ref qC)))
  (mj:gk K "_law_spots" "_law_spots" jk qC)
  {qD:Addr} (mn:W.nsIn K mainGlobals "_law_asked"=some (some (.ref qD)))
  (mq:gk K "_law_asked" "_law_asked" lP qD)
  {Ha:Addr} (DW:W.nsIn K mainGlobals "law"=some (some (.ref Ha)))
  (DX:gk K "law" "law" rY Ha)
  (Tc:Ct K aQ)
  (Rc:Z1 K az)
  (Fc:GI K aB)
  (Gc:L5 K aF)
  (Hc:GN K ay)
  (zz:TZ K)
  {ZY:Tok} (nI:W.nsIn K mainGlobals "WORD_MOST"=some (some (.int 12 ZY)))
  {wO:Tok} (mw:W.nsIn K mainGlobals "WORTH_MOST"=some (some (.int 999999 wO)))
  {Zo:Tok} (nJ:W.nsIn K mainGlobals "NEAR_MOST"=some (some (.int 60 Zo)))
  {Zu:Tok} (nK:W.nsIn K mainGlobals "PART_MOST"=some (some (.int 100 Zu)))
  {sM:Tok} (i_:W.nsIn K mainGlobals "FINDINGS_MOST"=some (some (.int 20 sM)))
  {dR:Addr} (pz:Mf K "BadTerms" dR)
  {cQ:Addr} (rG:Mf K "BadNear" cQ)
  {lg:Addr} (rH:Mf K "TooMany" lg)
  (pA:W.nsIn K mainGlobals "reversed"=some none)
  (ui:W.nsIn K mainGlobals "sorted"=some none)
  :∃fd:FuncData,(∀(s:Shared)(v:Value),BindsTo s fd ⟨[v],[]⟩ [("_law_script",v)])∧∀base:Heap,K.In base→base.Ns mainGlobals mg→a8 l.prog w K mg base (dq l.prog w) true 10 fa fd ["_law_script"] (Y8 K):=by
 have e:=Wh.symm.trans (W.mg_of X G DW);cases e;have T:=zz.tb X G;have kb:BU mg "WORD_MOST" (.int 12):=⟨_,W.mg_of X G nI,_,rfl⟩
 have bI:BU mg "WORTH_MOST" (.int 999999):=⟨_,W.mg_of X G mw,_,rfl⟩
 have iU:BU mg "NEAR_MOST" (.int 60):=⟨_,W.mg_of X G nJ,_,rfl⟩
 have kc:BU mg "PART_MOST" (.int 100):=⟨_,W.mg_of X G nK,_,rfl⟩
 have bu:BU mg "FINDINGS_MOST" (.int 20):=⟨_,W.mg_of X G i_,_,rfl⟩
 have jM:=pz.er X G;have bS:=rG.er X G;have lr:=rH.er X G;have JN:mg "reversed"=none:=W.mg_none_of X G pA;have jO:mg "sorted"=none:=W.mg_none_of X G ui;obtain @⟨_,k1,k2,k3,k4,k5,_,k6,_,l9,c9,k9⟩:=DX;refine⟨W.fnOf "law" "law" (fo rY) (eA rY) (aq rY) .none k1 k2 k3 k6 k4 k5,fun s v=> .of_eq rfl,fun base _ _=>?_⟩;have eG:=gG.df X G gF (fun _ F=>oX (P:=l.prog) (w:=w) (base:=base) T F) (Bp fun _ _ _ _ _ _ _=>rfl);have lh:=rz.df X G rq (fun _ F=>ZQ (P:=l.prog) (w:=w) (base:=base) T kb eG F) (Bp fun _ _ _ _ _ _ _=>rfl);have dS:=lU.df X G lT (fun _ F=>uB (P:=l.prog) (w:=w) (base:=base) T F) (XM fun _ _ _ _ _ _ _ _ _=>rfl);have cf:=jR.df X G jQ (fun _ F=>sE (P:=l.prog) (w:=w) (base:=base) T dS jM F) (Qf fun _ _ _ _ _ _ _ _ _ _=>rfl);have eI:=gI.df X G gH (fun _ F=>oZ (P:=l.prog) (w:=w) (base:=base) T dS bI lh bS F) (XM fun _ _ _ _ _ _ _ _ _=>rfl);have iH:=kK.df X G kJ (fun _ F=>ua (P:=l.prog) (w:=w) (base:=base) T bS iU eI F) (Bp fun _ _ _ _ _ _ _=>rfl);have rJ:=Yv (st:=bh) ic ie ig;have rK:=qc (P:=l.prog) (w:=w) (base:=base) T bI kc cf iH Tc rJ;have Zg:Binds K (W.fnOf "__init__" "Terms.__init__" (fo bh) (eA bh) (aq bh) (.ref gE) ko kq kr kn gD ku) ["self","same","out","into","least","part","near"] []:=fun s us hK hl=>by
  have uj:us.length=7:=by simpa using hl
  match us,uj with|[_,_,_,_,_,_,_],_=>exact BindsTo.of_defaults rfl (hK _ _ gJ) rfl rfl rfl
 have qi:ot l.prog w K mg base true 5 "Terms" aQ ["self","same","out","into","least","part","near"] [] (sR aQ dR cQ):=Yh rK ⟨qu.b,hZ,h_,qu.c⟩ (W.mg_of X G qu.a) Zg (.nil);have dW:=fU.mt Tc.cl fS fT (fun _ F=>n9 (P:=l.prog) (w:=w) (base:=base) T Tc F) (XM fun _ _ _ _ _ _ _ _ _=>rfl);have eZ:=ph.df X G pe (fun _ F=>Zf (P:=l.prog) (w:=w) (base:=base) T F) (Bp fun _ _ _ _ _ _ _=>rfl);have lQ:=YT.df X G YH (fun _ F=>Fy (P:=l.prog) (w:=w) (base:=base) T F) (XN fun _ _ _ _ _ _ _ _=>rfl);have dU:=fW.df X G fV (fun _ F=>oa (P:=l.prog) (w:=w) (base:=base) T F) (XN fun _ _ _ _ _ _ _ _=>rfl);have ck:=dF.mt Rc.cl dD dE (fun _ F=>kG (P:=l.prog) (w:=w) (base:=base) T eZ lQ Rc F) (XM fun _ _ _ _ _ _ _ _ _=>rfl);have n5:=gN.nw (W.mg_of X G m9.a) m9.b m9.c gL gM (fun _ F=>o6 (P:=l.prog) (w:=w) (base:=base) T Tc Rc dU ck F) (XM fun _ _ _ _ _ _ _ _ _=>rfl);have bT:=ip.mt Rc.cl ik il (fun _ F=>qd (P:=l.prog) (w:=w) (base:=base) T Rc F) (XN fun _ _ _ _ _ _ _ _=>rfl);have a9:=d0.mt Rc.cl dY dZ (fun _ F=>lp (P:=l.prog) (w:=w) (base:=base) T Rc F) (XM fun _ _ _ _ _ _ _ _ _=>rfl);have aX:=cP.mt Rc.cl cN cO (fun _ F=>jN (P:=l.prog) (w:=w) (base:=base) T lQ Rc F) (XN fun _ _ _ _ _ _ _ _=>rfl);have cY:=ff.mt Rc.cl e_ fe (fun _ F=>mE (P:=l.prog) (w:=w) (base:=base) T Rc a9 aX F) (XN fun _ _ _ _ _ _ _ _=>rfl);have fK:=i9.mt Rc.cl i7 i8 (fun _ F=>rp (P:=l.prog) (w:=w) (base:=base) T Rc bT cY F) (XN fun _ _ _ _ _ _ _ _=>rfl);have lR:=f6.nw (W.mg_of X G lu.a) lu.b lu.c fY fZ (fun _ F=>oh (P:=l.prog) (w:=w) (base:=base) T Fc F) (RP fun _ _ _ _ _ _ _ _ _ _ _=>rfl);have lS:=px.df X G pj (fun _ F=>Zl (P:=l.prog) (w:=w) (base:=base) T Fc F) (Bp fun _ _ _ _ _ _ _=>rfl);have gz:=jU.df X G jT (fun _ F=>sI (P:=l.prog) (w:=w) (base:=base) T Rc fK lR F) (XM fun _ _ _ _ _ _ _ _ _=>rfl);have nY:=gR.nw (W.mg_of X G m_.a) m_.b m_.c gP gQ (fun _ F=>o8 (P:=l.prog) (w:=w) (base:=base) T Gc F) (Bp fun _ _ _ _ _ _ _=>rfl);have jl:=lY.mt Gc.cl lW lX (fun _ F=>uD (P:=l.prog) (w:=w) (base:=base) T Gc F) (XN fun _ _ _ _ _ _ _ _=>rfl);have bU:=iw.mt Gc.cl ir iu (fun _ F=>qf (P:=l.prog) (w:=w) (base:=base) T Gc F) (XN fun _ _ _ _ _ _ _ _=>rfl);have cG:=jY.mt Gc.cl jW jX (fun _ F=>sJ (P:=l.prog) (w:=w) (base:=base) T Gc F) (XM fun _ _ _ _ _ _ _ _ _=>rfl);have iI:=kO.mt Gc.cl kM kN (fun _ F=>uc (P:=l.prog) (w:=w) (base:=base) T Gc jO F) (Bp fun _ _ _ _ _ _ _=>rfl);have jm:=fm.nw (W.mg_of X G iV.a) iV.b iV.c fh fj (fun _ F=>mG (P:=l.prog) (w:=w) (base:=base) T nY Hc F) (XM fun _ _ _ _ _ _ _ _ _=>rfl);have bV:=iB.mt Hc.cl iz iA (fun _ F=>qh (P:=l.prog) (w:=w) (base:=base) T Hc cG F) (XM fun _ _ _ _ _ _ _ _ _=>rfl);have dz:=fH.mt Hc.cl fF fG (fun _ F=>m8 (P:=l.prog) (w:=w) (base:=base) T a9 aX Hc cG bU bV F) (XM fun _ _ _ _ _ _ _ _ _=>rfl);have eJ:=gW.mt Hc.cl gT gU (fun _ F=>o_ (P:=l.prog) (w:=w) (base:=base) T Rc bT Hc bU bV jl dz F) (XM fun _ _ _ _ _ _ _ _ _=>rfl);have iJ:=kQ.df X G kP (fun _ F=>ud (P:=l.prog) (w:=w) (base:=base) T Rc Hc jm eJ iI F) (XN fun _ _ _ _ _ _ _ _=>rfl);have nZ:=rB.df X G rA (fun _ F=>ZS (P:=l.prog) (w:=w) (base:=base) T F) (Bp fun _ _ _ _ _ _ _=>rfl);have iL:=kT.df X G kR (fun _ F=>ue (P:=l.prog) (w:=w) (base:=base) T Tc nZ dW F) (Qf fun _ _ _ _ _ _ _ _ _ _=>rfl);have gA:=l0.df X G lZ (fun _ F=>uE (P:=l.prog) (w:=w) (base:=base) T Tc eZ Rc n5 iJ gz F) (XN fun _ _ _ _ _ _ _ _=>rfl);have jn:=l6.df X G l5 (fun _ F=>uF (P:=l.prog) (w:=w) (base:=base) T Fc F) (XN fun _ _ _ _ _ _ _ _=>rfl);have n6:=rD.df X G rC (fun _ F=>Zh (P:=l.prog) (w:=w) (base:=base) T jO bu iL gA jn lS lr F) (XM fun _ _ _ _ _ _ _ _ _=>rfl);have a7:=rF.df X G rE (fun _ F=>Z_ (P:=l.prog) (w:=w) (base:=base) T F) (XN fun _ _ _ _ _ _ _ _=>rfl);have cA:=l8.df X G l7 (fun _ F=>uH (P:=l.prog) (w:=w) (base:=base) T F) (Bp fun _ _ _ _ _ _ _=>rfl);have kf:=nj.df X G ni (fun _ F=>wI (P:=l.prog) (w:=w) (base:=base) T F) (XM fun _ _ _ _ _ _ _ _ _=>rfl);have kg:=nq.df X G nk (fun _ F=>wJ (P:=l.prog) (w:=w) (base:=base) T a7 F) (RP fun _ _ _ _ _ _ _ _ _ _ _=>rfl);have jo:=l'.df X G l_ (fun _ F=>uI (P:=l.prog) (w:=w) (base:=base) T a7 F) (U0 fun _ _ _ _ _ _ _ _ _ _ _ _=>rfl);have gC:=j1.df X G jZ (fun _ F=>sL (P:=l.prog) (w:=w) (base:=base) T a7 F) (XN fun _ _ _ _ _ _ _ _=>rfl);have kh:=nz.df X G ny (fun _ F=>wK (P:=l.prog) (w:=w) (base:=base) T F) (XM fun _ _ _ _ _ _ _ _ _=>rfl);have ki:=nC.df X G nB (fun _ F=>wL (P:=l.prog) (w:=w) (base:=base) T a7 kf kg jo gC kh F) (XN fun _ _ _ _ _ _ _ _=>rfl);have e7:=nF.df X G nE (fun _ F=>wM (P:=l.prog) (w:=w) (base:=base) T F) (Qf fun _ _ _ _ _ _ _ _ _ _=>rfl);have ju:=me.df X G ma (fun _ F=>uJ (P:=l.prog) (w:=w) (base:=base) T cA F) (Bp fun _ _ _ _ _ _ _=>rfl);have jr:=mh.df X G mf (fun _ F=>uK (P:=l.prog) (w:=w) (base:=base) T qi F) (Bp fun _ _ _ _ _ _ _=>rfl);have kj:=nH.df X G nG (fun _ F=>wN (P:=l.prog) (w:=w) (base:=base) T e7 F) (Bp fun _ _ _ _ _ _ _=>rfl);have jv:=mj.df X G mi (fun _ F=>uM (P:=l.prog) (w:=w) (base:=base) T e7 F) (XN fun _ _ _ _ _ _ _ _=>rfl);have jt:=mq.df X G mn (fun _ F=>uO (P:=l.prog) (w:=w) (base:=base) T n6 jr F) (Bp fun _ _ _ _ _ _ _=>rfl);exact JL T Fc bu a7 cA ki kj jt ju jv (Cf (st:=rY) l9 c9 k9)
theorem walk{l:W.OpenLaw}{q:Program}{loose:List Str}{XP:(Str→Option Value)→Heap→Prop}{YP:World→Heap→Prop}{d:DefRec}{K:Params→W.Frag}(hn:l.most=some 63)(Lh:d.params.defaults=[])
  (hY:∀(w:World)(h:Heap),YP w h→(K w.params).In h)
  (F:∀(w:World)(mg:Str→Option Value)(fa:Addr)(h:Heap),(K w.params).In h→h.Ns mainGlobals mg→mg d.name=some (.ref fa)→
   ∃fd:FuncData,(∀(s:Shared)(u:Value),BindsTo s fd ⟨[u],[]⟩ [("_law_script",u)])∧∀base:Heap,(K w.params).In base→base.Ns mainGlobals mg→a8 l.prog w (K w.params) mg base (dq l.prog w) true 10 fa fd ["_law_script"] (Y8 (K w.params))):
  W.WalkO q loose XP YP l.row.toRowW d [] (fun f vs=>PySem.call f vs):=
 L2.EH (n:=63) (k:=10) (x:="_law_script") (CX:=fun w=>dq l.prog w) (sp:=fun w=>Y8 (K w.params)) hn (XC) Lh ⟨(fun _=>rfl),XC,XC⟩ hY F (fun _ _ a ns hl _ hS=>⟨a,ns,rfl,hS,hl,fun _=>rfl⟩) fun _ _ _ _ _ ⟨_,_,_,_,_,_,_,_,_,_,_,_,_,z⟩=>z
end Qg
namespace HD
open PySem PySem.W PyProof.Rows L2
noncomputable section
noncomputable abbrev pw:Program:=PySem.Challenge.pw_quotefind_k16_falling
noncomputable abbrev pq:Program:=pw
theorem Wi:pw=pq:=rfl
def z0:Str:=⟨⟨[60,109,111,100,117,108,101,62]⟩⟩
def z1:Str:=⟨⟨[95,95,109,97,105,110,95,95]⟩⟩
def SX:Str:=⟨⟨[47,99,108,97,105,109,47,99,117,116,46,112,121]⟩⟩
noncomputable abbrev y0:String:=PySem.W.SL.s658472552662922059x5
noncomputable abbrev Wj:String:=PySem.W.SL.s5856160107412720595x4
noncomputable abbrev R(a:Addr):Value:= .ref a
noncomputable abbrev I(i:Int):Value:= .int i 0
noncomputable abbrev N:Value:= .none
noncomputable abbrev U(v:Value):Option Value:=some v
noncomputable abbrev B:=BT.node
noncomputable abbrev L:=BT.nil
noncomputable abbrev tu(l:List Value):Obj:=⟨.type "tuple",none, .seq ⟨l⟩ 0,⟨[]⟩⟩
noncomputable abbrev fi(l:List Value):Obj:=⟨.none,none, .fields ⟨l⟩,⟨[]⟩⟩
noncomputable abbrev cd(n:Str)(t:Nat)(l a f:Int)(r8:Addr)(b:Bool)(Wl:Addr)(Wm Wn Wo:Value)(t3:Int)(t4:Nat):Obj:=⟨.type Wj,none, .fields ⟨[.str n t, .str n (t+1), .str SX (t+2),I l,I a,I 0,I 0,I f,R r8, .bool b,I 181,R Wl,N,Wm,Wn,Wo,I t3,I l, .str SX t4]⟩,⟨[]⟩⟩
noncomputable def tp(p:Program)(i:Nat):Stmt:=p.main.body.getD i (.Pass ⟨0,0,0,0⟩)
noncomputable def b0(_:Program)(P:Params):Obj:=PySem.W.boot_o_0 P
noncomputable def b1(_:Program)(P:Params):Obj:=PySem.W.boot_o_1 P
noncomputable def b2(_:Program)(P:Params):Obj:=PySem.W.boot_o_2 P
noncomputable def b3(_:Program)(P:Params):Obj:=PySem.W.boot_o_3 P
noncomputable def b4(_:Program)(P:Params):Obj:=PySem.W.boot_o_4 P
noncomputable def b5(_:Program)(P:Params):Obj:=PySem.W.boot_o_5 P
noncomputable def b6(_:Program)(P:Params):Obj:=PySem.W.boot_o_6 P
noncomputable def b7(_:Program)(P:Params):Obj:=PySem.W.boot_o_7 P
noncomputable def b8(_:Program)(P:Params):Obj:=PySem.W.boot_o_8 P
noncomputable def b9(_:Program)(P:Params):Obj:=PySem.W.boot_o_9 P
noncomputable def SY(_:Program)(P:Params):Obj:=PySem.W.boot_o_10 P
noncomputable def S8(p:Program)(P:Params):Obj:=tu []
noncomputable def S9(p:Program)(P:Params):Obj:=fi []
noncomputable def S_(p:Program)(P:Params):Obj:=cd z0 182 1 0 0 11 false 12 N N N 185 186
noncomputable def Td(p:Program)(P:Params):Obj:=⟨(.type y0),none,.plain,⟨[U (R 13),U (R 3),U (R 3),none,U (.str z1 164),none,U (R 0)]⟩⟩
noncomputable def La(p:Program)(P:Params):List Obj:=[b0 p P,b1 p P,b2 p P,b3 p P,b4 p P,b5 p P,b6 p P,b7 p P,b8 p P,b9 p P,SY p P,S8 p P,S9 p P,S_ p P,Td p P]
noncomputable def Ta(p:Program)(P:Params):BT:=(B (b0 p P) (B (b1 p P) (B (b3 p P) (B (b7 p P) L L) (B (S8 p P) L L)) (B (b5 p P) (B (b9 p P) L L) (B (S_ p P) L L))) (B (b2 p P) (B (b4 p P) (B (b8 p P) L L) (B (S9 p P) L L)) (B (b6 p P) (B (SY p P) L L) (B (Td p P) L L))))
noncomputable def keep:List Nat:=[0,2,3,4,5,7,8,9,11,12,13,14,16,17,19,20,21,22,23,24,25,27,28,29,31,32,33,34,35,36,37,38,40,41,42,43,44,45,46,47,48,49,50,51,52,53,54]
noncomputable def loose:List Str:=[]
noncomputable def env(p:Program):Env:={scope:=p.main.scope,locals:=mainNs,globals:=mainNs,cells:=[],code:=(R 13),frame:=some 14}
noncomputable def cE(p:Program):Code:= .body (behindTheImports p) (env p)
noncomputable def qP:Pos:=⟨0,0,0,0⟩
noncomputable def pP:Pos:=⟨0,0,0,0⟩
noncomputable def bP:Pos:=⟨0,0,0,0⟩
noncomputable def fP:Pos:=⟨367,0,392,15⟩
noncomputable def an:Option Value:=(some (R 6))
noncomputable abbrev MS:Nat:=54
noncomputable abbrev m0:Nat:=11
noncomputable abbrev MT:Nat:=12
noncomputable abbrev MU:Nat:=1
noncomputable abbrev JO:Nat:=3615
noncomputable abbrev JP:Nat:=2
noncomputable abbrev JQ:Nat:=7954
noncomputable abbrev nA:Nat:=15
noncomputable abbrev Wq:Nat:=187
noncomputable abbrev Wr:Nat:=187
end
end HD
namespace HD
open PySem PySem.W PyProof.Rows L2
noncomputable section
abbrev S0(w:World)(os:OsState):Shared:=⟨boot_heap w.params,⟨[]⟩,boot_drawn,boot_toks,os⟩
abbrev Sa(p:Program)(w:World)(os:OsState):Shared:=⟨⟨⟨La p w.params⟩,{}⟩,⟨[]⟩,{},Wq,os⟩
abbrev Sb(p:Program)(w:World)(os:OsState):SharedT:=⟨Ta p w.params,nA,{},⟨[]⟩,{},Wr,os⟩
abbrev q(p:Program):Program:=view p keep
abbrev Xt(p:Program)(R:WRecords):Shared→Bool:=fun s=>xlAt (q p) [] s&&recOk R s
theorem MV(w:World)(os:OsState):topGo treeTable pq w m0 an MT (S0 w os) (topStub pq)=some (Sa pq w os,⟨denote treeTable (cE pq),cE pq,pP,[topFrame qP]⟩):=by
 rewrite[Fast.te15667345088766844465,Fast.te14364793385576792824,Fast.te11892475500146522536];kernel_rfl
theorem MW(w:World)(os:OsState):segRun treeTable pq w m0 an 1 MU (Sa pq w os) (blockOf (behindTheImports pq) (env pq) (cE pq) pP [topFrame qP])=some (.next,(Sb pq w os).abs,cE pq,bP):=by
 rewrite[Fast.te14374325043358763698,Fast.te14364793385576792824];kernel_rfl
def Rm(w:World)(os:OsState):=Fast.tw10110043849684766642 Fast.tw14364793385576792824 pq w m0 an 1 JO (Sb pq w os) (piecesOf (behindTheImports pq) (env pq) (cE pq) bP [topFrame qP])
def Sm(w:World)(os:OsState):SharedT:=match Rm w os with|some (_,s,_,_)=>s|none=>Sb pq w os
theorem MY(w:World)(os:OsState):segRunT treeTable pq w m0 an 1 JO (Sb pq w os) (piecesOf (behindTheImports pq) (env pq) (cE pq) bP [topFrame qP])=some (.next,Sm w os,cE pq,fP):=by
 rewrite[Fast.te10110043849684766642,Fast.te14364793385576792824];kernel_rfl
def Rf(w:World)(os:OsState):=Fast.tw14082659384304107361 Fast.tw14364793385576792824 pq w m0 an JP (Sm w os).abs ⟨doneF .next,cE pq,fP,[topFrame qP]⟩
def Sf(w:World)(os:OsState):Shared:=match Rf w os with|some s=>s|none=>S0 w os
theorem MZ(w:World)(os:OsState):topRun treeTable pq w m0 an JP (Sm w os).abs ⟨doneF .next,cE pq,fP,[topFrame qP]⟩=some (Sf w os):=by
 rewrite[Fast.te14082659384304107361,Fast.te14364793385576792824];kernel_rfl
theorem JR(w:World):((boot_heap w.params).isNs mainGlobals&&(⟨[]⟩:Array GenState).size==0,(boot_heap w.params).objs.size,(boot_heap w.params).nsMap mainGlobals "__annotations__")=(true,m0,an):=by
 rewrite[Fast.te8920871248978507458];kernel_rfl
theorem JS:∀w:World,(fencedOpening treeTable pq w JQ).map (fun s=>(s.heap,s.gens,s.drawn,s.toks))=some (boot_heap w.params,⟨[]⟩,boot_drawn,boot_toks):=
 boot_open (by kernel_rfl) (by kernel_rfl) (fun s=>by kernel_rfl)
theorem M0(w:World)(os:OsState):topRun treeTable pq w m0 an (MT+(MU+(JO+JP))) (S0 w os) (topStub pq)=some (Sf w os):=by
 refine go_top (MV w os) (piece_block (MW w os) ?_);have h:=piece_app (rest:=[]) (segRun_of (MY w os)) (piece_nil (env:=env pq) (MZ w os));rw[List.append_nil]at h;exact h
theorem DY(w:World)(os:OsState):
 (staticsOk (importedModules pq.main.body) (boot_heap w.params) (Sf w os).heap&&namesBound pq (Sf w os).heap&&gensDone (Sf w os)&&laidKept (boot_heap w.params) (Sf w os).heap)=true
 ∧seen ((recsOf (q pq)).map (·.name)) (ownsOf (q pq)) [] {Sf w os with gens:=#[]}=expectedOf (q pq)
 ∧(Sf w os).heap.bltView=bltViewBooted:=by
 refine⟨?_,?_,?_⟩
 ·rewrite[Fast.te5923862056798008813];kernel_rfl
 ·rewrite[Fast.te5160383126252970620,Fast.te3399658132070893891,Fast.te5991557255702980513];kernel_rfl
 ·kernel_rfl
theorem JT(w:World)(os:OsState):
 ((Sf w os).heap.keysOk (looseW (q pq) loose) ((recsOf (q pq)).map (·.name)) ((litsOf (q pq)).map (·.1)) ((clssOf (q pq) (looseW (q pq) loose)).map (·.name))&&(Sf w os).heap.accountedOkI (importedModules pq.main.body)&&(Sf w os).heap.isNs mainGlobals&&(Sf w os).heap.isNs builtinsNs&&tablesOk (q pq) (Sf w os).heap&&Xt pq [] (Sf w os)&&(if true then(Sf w os).gens.size==0 else !leftWithCleanup (Sf w os).gens))=true:=by
 rewrite[Fast.te10880121769531294198,Fast.te821141287760084731,Fast.te3399658132070893891,Fast.te7409074990110511671,Fast.te13664370479719496447,Fast.te14722251495701143533,Fast.te5923862056798008813,Fast.te10994771534591457954];kernel_rfl
theorem JU(w:World)(os:OsState):
 tabsOk (q pq) (Sf w os)=true
 ∧pinSeenD (q pq) (drecsOf (q pq)) (Sf w os)=pinGoodD (drecsOf (q pq))
 ∧plainSeenE (q pq) (looseW (q pq) loose) (Sf w os)=plainGoodE (q pq) (looseW (q pq) loose)
 ∧plainSeenD (q pq) loose (Sf w os)=plainGoodD (q pq) loose
 ∧wideSeen (q pq) (Sf w os)=wideGood (q pq)
 ∧clsSeenW (q pq) loose (Sf w os)=clsGoodW (q pq) loose:=by
 refine⟨?_,?_,?_,?_,?_,?_⟩
 ·rewrite[Fast.te479339242167458305];kernel_rfl
 ·rewrite[Fast.te16090120013241838585,Fast.te3247288618530077131];kernel_rfl
 ·rewrite[Fast.te2386780881361962483,Fast.te821141287760084731];kernel_rfl
 ·rewrite[Fast.te11698064438423848299];kernel_rfl
 ·rewrite[Fast.te7317090234206586261];kernel_rfl
 ·rewrite[Fast.te7369524293546568484];kernel_rfl
theorem lx{p q:Program}{lo:List Str}{Xt:Shared→Bool}{α:Type}{Yf:Shared→α}{a:α}{w:World}{N M n:Nat}{h:Heap}{gs:Array GenState}{dr:Drawn}{k:Nat}{an:Option Value}{g:OsState→Shared}
  (o:(fencedOpening treeTable p w N).map (fun s=>(s.heap,s.gens,s.drawn,s.toks))=some (h,gs,dr,k)) (z:(h.isNs mainGlobals&&gs.size==0,h.objs.size,h.nsMap mainGlobals "__annotations__")=(true,n,an))
  (r:∀os,topRun treeTable p w n an M ⟨h,gs,dr,k,os⟩ (topStub p)=some (g os)) (le:M≤N) (x1:∀os,(staticsOk (importedModules p.main.body) h (g os).heap&&namesBound p (g os).heap&&gensDone (g os)&&laidKept h (g os).heap)=true)
  (x2:∀os,openSeen q lo (importedModules p.main.body) Xt true (g os)=openGood q lo) (x3:∀os,Yf (g os)=a):(openEnds treeTable p w N).map (fun s=>(openSeen q lo (importedModules p.main.body) Xt true s,Yf s))=some (openGood q lo,a):=by
 obtain⟨⟨h,gs,dr,k,os⟩,e1,e2⟩:=Option.map_eq_some_iff.mp o;cases e2;obtain⟨y1,y2⟩:=Prod.mk.inj z;obtain⟨y2,y3⟩:=Prod.mk.inj y2;have t:=topRun_mono (N-M) _ _ _ _ (r os);rw[Nat.add_sub_cancel' le]at t;have f:topFrom treeTable p w N ⟨h,gs,dr,k,os⟩=some (g os):=by
  unfold topFrom;dsimp only;rw[y1,y2,y3,t];show(match staticsOk _ h (g os).heap&&namesBound p (g os).heap&&gensDone (g os)&&laidKept h (g os).heap with|true=>_|false=>_)=_;rw[x1 os]
 unfold openEnds;rw[e1,Option.bind_some,f];exact congrArg some (Prod.ext (x2 os) (x3 os))
theorem left(p:Program)(e:p=pq)(H:Hook)(hk:∀w os,H.obs (Sf w os)=H.val w):LeftO p (q p) loose (Xt p []) H.obs H.val JQ:=by
 subst e;intro w;exact lx (g:=Sf w) (JS w) (JR w) (M0 w) (XC) (fun os=>(DY w os).1) (fun os=>let ⟨_,x2,x3⟩:=DY w os;let ⟨x5,x6,x7,x8,x9,x0⟩:=JU w os;looks_pair x2 (looks_pair x3 (looks_pair (JT w os) (looks_pair x5 (looks_pair x6 (looks_pair x7 (looks_pair x8 (looks_pair x9 x0)))))))) (hk w)
def d:DefRec:=match tp pw MS with
 | .FunctionDef n a b _ _ _ sc _ _ ps=>⟨n,a,b,sc,ps⟩
 | _=>⟨Str.empty,fo (tp pw 0),[],aq (tp pw 0),default⟩
end
end HD
open PySem PySem.W PyProof.Rows
set_option maxRecDepth 100000 in
set_option maxHeartbeats 0 in
theorem PySem.Challenge.cw_quotefind_k16_falling_holds : PySem.Challenge.rw_quotefind_k16_falling.Holds := by
 w_on;o_law;k_head
 (case hw=>w_witness2)
 refine Qg.walk (l:=PySem.Challenge.rw_quotefind_k16_falling) rfl rfl (fun w h Y=>PySem.W.kIn_of Y) ?F
 case F=>
  intro w mg fa h KX G Li
  refine' Qg.all_mk KX G Li ?qu ?m9 ?lu ?m_ ?iV ?gF ?gG ?rq ?rz ?lT ?lU ?jQ ?jR ?gH ?gI ?kJ ?kK ?hZ ?h_ ?ic ?ie ?ig ?gJ ?fS ?fT ?fU ?pe ?ph ?YH ?YT ?fV ?fW ?dD ?dE ?dF ?gL ?gM ?gN ?ik ?il ?ip ?dY ?dZ ?d0 ?cN ?cO ?cP ?e_ ?fe ?ff ?i7 ?i8 ?i9 ?fY ?fZ ?f6 ?pj ?px ?jT ?jU ?gP ?gQ ?gR ?lW ?lX ?lY ?ir ?iu ?iw ?jW ?jX ?jY ?kM ?kN ?kO ?fh ?fj ?fm ?iz ?iA ?iB ?fF ?fG ?fH ?gT ?gU ?gW ?kP ?kQ ?rA ?rB ?kR ?kT ?lZ ?l0 ?l5 ?l6 ?rC ?rD ?rE ?rF ?l7 ?l8 ?ni ?nj ?nk ?nq ?l_ ?l' ?jZ ?j1 ?ny ?nz ?nB ?nC ?nE ?nF ?ma ?me ?mf ?mh ?nG ?nH ?mi ?mj ?mn ?mq ?DW ?DX ?Tc ?Rc ?Fc ?Gc ?Hc ?zz ?nI ?mw ?nJ ?nK ?i_ ?pz ?rG ?rH ?pA ?ui
  (case qu=>refine' ⟨?a,?b,?c⟩;(case a=>k_is);(case b=>k_is);(case c=>k_is))
  (case m9=>refine' ⟨?a,?b,?c⟩;(case a=>k_is);(case b=>k_is);(case c=>k_is))
  (case lu=>refine' ⟨?a,?b,?c⟩;(case a=>k_is);(case b=>k_is);(case c=>k_is))
  (case m_=>refine' ⟨?a,?b,?c⟩;(case a=>k_is);(case b=>k_is);(case c=>k_is))
  (case iV=>refine' ⟨?a,?b,?c⟩;(case a=>k_is);(case b=>k_is);(case c=>k_is))
  (case gF=>k_is)
  (case gG=>refine' .mk ?l ?c ?k;(case l=>k_is);(case c=>k_is);(case k=>k_is))
  (case rq=>k_is)
  (case rz=>refine' .mk ?l ?c ?k;(case l=>k_is);(case c=>k_is);(case k=>k_is))
  (case lT=>k_is)
  (case lU=>refine' .mk ?l ?c ?k;(case l=>k_is);(case c=>k_is);(case k=>k_is))
  (case jQ=>k_is)
  (case jR=>refine' .mk ?l ?c ?k;(case l=>k_is);(case c=>k_is);(case k=>k_is))
  (case gH=>k_is)
  (case gI=>refine' .mk ?l ?c ?k;(case l=>k_is);(case c=>k_is);(case k=>k_is))
  (case kJ=>k_is)
  (case kK=>refine' .mk ?l ?c ?k;(case l=>k_is);(case c=>k_is);(case k=>k_is))
  (case hZ=>k_is)
  (case h_=>k_is)
  (case ic=>k_is)
  (case ie=>k_is)
  (case ig=>k_is)
  (case gJ=>k_is)
  (case fS=>k_is)
  (case fT=>k_is)
  (case fU=>refine' .mk ?l ?c ?k;(case l=>k_is);(case c=>k_is);(case k=>k_is))
  (case pe=>k_is)
  (case ph=>refine' .mk ?l ?c ?k;(case l=>k_is);(case c=>k_is);(case k=>k_is))
  (case YH=>k_is)
  (case YT=>refine' .mk ?l ?c ?k;(case l=>k_is);(case c=>k_is);(case k=>k_is))
  (case fV=>k_is)
  (case fW=>refine' .mk ?l ?c ?k;(case l=>k_is);(case c=>k_is);(case k=>k_is))
  (case dD=>k_is)
  (case dE=>k_is)
  (case dF=>refine' .mk ?l ?c ?k;(case l=>k_is);(case c=>k_is);(case k=>k_is))
  (case gL=>k_is)
  (case gM=>k_is)
  (case gN=>refine' .mk ?l ?c ?k;(case l=>k_is);(case c=>k_is);(case k=>k_is))
  (case ik=>k_is)
  (case il=>k_is)
  (case ip=>refine' .mk ?l ?c ?k;(case l=>k_is);(case c=>k_is);(case k=>k_is))
  (case dY=>k_is)
  (case dZ=>k_is)
  (case d0=>refine' .mk ?l ?c ?k;(case l=>k_is);(case c=>k_is);(case k=>k_is))
  (case cN=>k_is)
  (case cO=>k_is)
  (case cP=>refine' .mk ?l ?c ?k;(case l=>k_is);(case c=>k_is);(case k=>k_is))
  (case e_=>k_is)
  (case fe=>k_is)
  (case ff=>refine' .mk ?l ?c ?k;(case l=>k_is);(case c=>k_is);(case k=>k_is))
  (case i7=>k_is)
  (case i8=>k_is)
  (case i9=>refine' .mk ?l ?c ?k;(case l=>k_is);(case c=>k_is);(case k=>k_is))
  (case fY=>k_is)
  (case fZ=>k_is)
  (case f6=>refine' .mk ?l ?c ?k;(case l=>k_is);(case c=>k_is);(case k=>k_is))
  (case pj=>k_is)
  (case px=>refine' .mk ?l ?c ?k;(case l=>k_is);(case c=>k_is);(case k=>k_is))
  (case jT=>k_is)
  (case jU=>refine' .mk ?l ?c ?k;(case l=>k_is);(case c=>k_is);(case k=>k_is))
  (case gP=>k_is)
  (case gQ=>k_is)
  (case gR=>refine' .mk ?l ?c ?k;(case l=>k_is);(case c=>k_is);(case k=>k_is))
  (case lW=>k_is)
  (case lX=>k_is)
  (case lY=>refine' .mk ?l ?c ?k;(case l=>k_is);(case c=>k_is);(case k=>k_is))
  (case ir=>k_is)
  (case iu=>k_is)
  (case iw=>refine' .mk ?l ?c ?k;(case l=>k_is);(case c=>k_is);(case k=>k_is))
  (case jW=>k_is)
  (case jX=>k_is)
  (case jY=>refine' .mk ?l ?c ?k;(case l=>k_is);(case c=>k_is);(case k=>k_is))
  (case kM=>k_is)
  (case kN=>k_is)
  (case kO=>refine' .mk ?l ?c ?k;(case l=>k_is);(case c=>k_is);(case k=>k_is))
  (case fh=>k_is)
  (case fj=>k_is)
  (case fm=>refine' .mk ?l ?c ?k;(case l=>k_is);(case c=>k_is);(case k=>k_is))
  (case iz=>k_is)
  (case iA=>k_is)
  (case iB=>refine' .mk ?l ?c ?k;(case l=>k_is);(case c=>k_is);(case k=>k_is))
  (case fF=>k_is)
  (case fG=>k_is)
  (case fH=>refine' .mk ?l ?c ?k;(case l=>k_is);(case c=>k_is);(case k=>k_is))
  (case gT=>k_is)
  (case gU=>k_is)
  (case gW=>refine' .mk ?l ?c ?k;(case l=>k_is);(case c=>k_is);(case k=>k_is))
  (case kP=>k_is)
  (case kQ=>refine' .mk ?l ?c ?k;(case l=>k_is);(case c=>k_is);(case k=>k_is))
  (case rA=>k_is)
  (case rB=>refine' .mk ?l ?c ?k;(case l=>k_is);(case c=>k_is);(case k=>k_is))
  (case kR=>k_is)
  (case kT=>refine' .mk ?l ?c ?k;(case l=>k_is);(case c=>k_is);(case k=>k_is))
  (case lZ=>k_is)
  (case l0=>refine' .mk ?l ?c ?k;(case l=>k_is);(case c=>k_is);(case k=>k_is))
  (case l5=>k_is)
  (case l6=>refine' .mk ?l ?c ?k;(case l=>k_is);(case c=>k_is);(case k=>k_is))
  (case rC=>k_is)
  (case rD=>refine' .mk ?l ?c ?k;(case l=>k_is);(case c=>k_is);(case k=>k_is))
  (case rE=>k_is)
  (case rF=>refine' .mk ?l ?c ?k;(case l=>k_is);(case c=>k_is);(case k=>k_is))
  (case l7=>k_is)
  (case l8=>refine' .mk ?l ?c ?k;(case l=>k_is);(case c=>k_is);(case k=>k_is))
  (case ni=>k_is)
  (case nj=>refine' .mk ?l ?c ?k;(case l=>k_is);(case c=>k_is);(case k=>k_is))
  (case nk=>k_is)
  (case nq=>refine' .mk ?l ?c ?k;(case l=>k_is);(case c=>k_is);(case k=>k_is))
  (case l_=>k_is)
  (case l'=>refine' .mk ?l ?c ?k;(case l=>k_is);(case c=>k_is);(case k=>k_is))
  (case jZ=>k_is)
  (case j1=>refine' .mk ?l ?c ?k;(case l=>k_is);(case c=>k_is);(case k=>k_is))
  (case ny=>k_is)
  (case nz=>refine' .mk ?l ?c ?k;(case l=>k_is);(case c=>k_is);(case k=>k_is))
  (case nB=>k_is)
  (case nC=>refine' .mk ?l ?c ?k;(case l=>k_is);(case c=>k_is);(case k=>k_is))
  (case nE=>k_is)
  (case nF=>refine' .mk ?l ?c ?k;(case l=>k_is);(case c=>k_is);(case k=>k_is))
  (case ma=>k_is)
  (case me=>refine' .mk ?l ?c ?k;(case l=>k_is);(case c=>k_is);(case k=>k_is))
  (case mf=>k_is)
  (case mh=>refine' .mk ?l ?c ?k;(case l=>k_is);(case c=>k_is);(case k=>k_is))
  (case nG=>k_is)
  (case nH=>refine' .mk ?l ?c ?k;(case l=>k_is);(case c=>k_is);(case k=>k_is))
  (case mi=>k_is)
  (case mj=>refine' .mk ?l ?c ?k;(case l=>k_is);(case c=>k_is);(case k=>k_is))
  (case mn=>k_is)
  (case mq=>refine' .mk ?l ?c ?k;(case l=>k_is);(case c=>k_is);(case k=>k_is))
  (case DW=>k_is)
  (case DX=>refine' .mk ?l ?c ?k;(case l=>k_is);(case c=>k_is);(case k=>k_is))
  (case Tc=>refine⟨⟨?_,?_,?_,?_⟩,?_,?_,?_,?_,?_,?_,?_⟩<;>(show _=_;k_is))
  (case Rc=>refine⟨⟨?_,?_,?_,?_⟩,?_,?_,?_,?_⟩<;>(show _=_;k_is))
  (case Fc=>refine⟨⟨?_,?_,?_,?_⟩,?_,?_,?_,?_⟩<;>(show _=_;k_is))
  (case Gc=>refine⟨⟨?_,?_,?_,?_⟩,?_,?_⟩<;>(show _=_;k_is))
  (case Hc=>refine⟨⟨?_,?_,?_,?_⟩,?_,?_,?_,?_⟩<;>(show _=_;k_is))
  (case zz=>constructor<;>(show _=_;k_is))
  (case nI=>k_is)
  (case mw=>k_is)
  (case nJ=>k_is)
  (case nK=>k_is)
  (case i_=>k_is)
  (case pz=>constructor;(case a=>k_is);(case b=>k_exc);all_goals k_is)
  (case rG=>constructor;(case a=>k_is);(case b=>k_exc);all_goals k_is)
  (case rH=>constructor;(case a=>k_is);(case b=>k_exc);all_goals k_is)
  (case pA=>k_is)
  (case ui=>k_is)
#print axioms PySem.Challenge.cw_quotefind_k16_falling_holds
