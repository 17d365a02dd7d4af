import PyProof.Rows.All
import Open.Pieces
import Wide.FinOn
import KE.KDictOf
import KE.KFromBytes
import KE.KIsAll
import KE.KListMore
import KE.KRevIter
import KE.KSortTup
import KE.KTurns
import KE.KWords
import Lean
import PyProof.EqAt
import PyProof.EqKinds
import PyProof.TupleCall
import PySem.Challenge.RW_quotefind_k21_shown_best
set_option Elab.async false
set_option linter.all false
set_option maxRecDepth 100000
set_option hygiene false in
local macro_rules
|`(tactic|o_head $H)=>`(tactic|refine holds_open (q:=HD.q HD.pw) (loose:=HD.loose) (Xt:=HD.Xt HD.pw []) (XP:=XL (HD.q HD.pw) []) (Yf:=Hook.obs $H) (Ya:=Hook.val $H) (YP:=Hook.says $H) (d:=HD.d) (kwd:=[]) (N:=HD.MD) (HD.left HD.pw HD.arq $H λw os=>HD.awa (by kernel_rfl) (by kernel_rfl)) (Hook.of $H) (Hook.keeps $H) (λs e=>xl_of s (Bool.and_eq_true_iff.mp e).1) XL.keeps (by kernel_rfl) (by kernel_rfl) (by kernel_rfl) (λs e=>recFacts_of (Bool.and_eq_true_iff.mp e).2) (by rfl) (by assumption) (by decide+kernel) ⟨rfl,rfl,rfl,rfl,rfl,by decide+kernel⟩ ?hw ?hc)
|`(Bx $a)=>`(@arU _ _ _ _ _ _ $a (by first|exact bq _ (by decide) (by decide)|rfl))
set_option hygiene false in
def tabq:Array (Lean.MacroM Lean.Term):=#[`(by rfl),`(by decide),`(by lia),`(by exact rfl),`(?_),`([]),`(by intro _;rfl),`(by simp),`(by decide+kernel),`(by first|exact .inl rfl|exact .inr rfl|assumption),`(by exact .inl rfl),`(by omega),`(by kernel_rfl)]
open Lean in
def tabk:List Syntax->Syntax
|[x]=>x
|l=>let r:=l.reverse.toArray;let a:=r.extract 1 r.size;let n(k:String)(b:Array Syntax):=Syntax.node .none ((if k.startsWith "«" then k else "Lean.Parser.Term."++k).toName) b;let s:=mkNullNode (mkSepArray a (mkAtom ","));match r[0]! with
 |.atom _ "⟨"=>n "anonymousCtor" #[mkAtom "⟨",s,mkAtom "⟩"]
 |.atom _ "["=>n "«term[_]»" #[mkAtom "[",s,mkAtom "]"]
 |.atom _ "λ"=>n "fun" #[mkAtom "fun",n "basicFun" #[mkNullNode a.pop,mkNullNode,mkAtom "=>",a.back!]]
 |.atom _ ":"=>n "namedArgument" #[mkAtom "(",a[0]!,mkAtom ":=",a[1]!,mkAtom ")"]
 |.atom _ f=>n ("«term_"++f++"_»") #[a[0]!,mkAtom f,a[1]!]
 |f=>n "app" #[f,mkNullNode a]
open Lean in
def tabm(t n:String)(a:Array Syntax):MacroM Syntax:=do
 let [_,r]:=t.splitOn ("\n"++n++" ")|Macro.throwUnsupported
 let mut k:List (List Syntax):=[[]]
 let mut w:=""
 for c in ((r.splitOn "\n").headD "").toList++[' '] do
  if c==' '||c=='('||c==')' then
   if w.length>0 then
    let v:=w.toList;let u:=String.ofList v.tail;let h:=v.head!;let o:=Syntax.node .none `Lean.Parser.Term.hole #[mkAtom "_"];let i(s:String):Syntax:=mkIdent s.toName
    let x<-if w=="_" then pure [o] else if h=='_'&&u.isNat then pure (List.replicate u.toNat! o) else if w.isNat then pure [a[w.toNat!-1]!] else if h=='#' then pure [Syntax.mkNumLit u] else if h=='%' then do let x<-tabq[u.toNat!]!;pure [x.raw] else if h=='"' then pure [Syntax.mkStrLit (u.dropEnd 1).toString] else if h=='@' then pure [Syntax.node .none `Lean.Parser.Term.explicit #[mkAtom "@",i u]] else if h=='.' then pure [Syntax.node .none `Lean.Parser.Term.dotIdent #[mkAtom ".",i u]] else if ["⟨","[","λ",":","+","-","++","::","="].contains w then pure [mkAtom w] else match w.splitOn "." with
    |y::z=>if z.any String.isNat then pure [z.foldl (fun b p=>Syntax.node .none `Lean.Parser.Term.proj #[b,mkAtom ".",if p.isNat then Syntax.mkLit fieldIdxKind p else i p]) (i y)] else pure [i w]
    |_=>pure [i w]
    k:=match k with|y::z=>(x++y)::z|_=>k
    w:=""
   if c=='(' then k:=[]::k
   if c==')' then k:=match k with|x::y::z=>(tabk x::y)::z|_=>k
  else w:=w.push c
 pure (tabk k.head!)
def tabt:=r#"
Af @aI _2 1 _ 2 %3(Or.inl rfl)%9
AZ @aF _2 1 _4 2 %3(Or.inl rfl)3 %0 %10
AB @ak _5 1 af %0
BK @aM _12 1(hr.mono %1)aO 2 %0 %1 %0 %0
C9 @aX _9(arc K)%3 T.aaR PyProof.Rows.Boot.«len» 1 %1 %1 %0 %0
AM List.getElem?_eq_some_iff.mp 1
E6 @fg _ K _11 PySem.F.plainAttrs_list PySem.F.slot_list_append PySem.F.type_list_append aaN 1 2 %0 %0 %0 %0 %0 %0
FO @aD _ 1 _4(pv #0)%0 %0
Fx @ay _7(aj K)(pv #0)1(λ _2 rfl)
G9 @ay _7(aj K)(@ay _7(aj K)(pv #0)ai(λ _2 rfl))1(λ _2 rfl)
My @aM _12 1(hr.mono %1)aO(@ak _5(pv #0)(@ak _5 ai af %0)%0)%0 %1 %0 %0
tR @b_ _9(bo K)%3 1 PyProof.Rows.Boot.«list»(@ak _5(@ay _7(aj K)(pv #0)ai(λ _2 rfl))af %0)%1 %1 %0 %0
Ao @ak _5 1 2 %0
A8 @ao _3 1
Bd @ay _7(aj K)1 2(λ _2 rfl)
CJ @a_ _8 1(@ao _3(@aL _4 dF))aP
B7 List.mem_of_getElem? 1
FX @aF _2 1 _4 2 %3(Or.inl rfl)(@aap _4 af)%0 %10
AQ @aB _5 1 2
E5 @ay _7(bV K)1 ai(λ _2 rfl)
DB @bp _8 hX.own %3 1 2 3 %6
HX @cB _ K _7(pv #0)1 %0 %0
AS @ax _5 1 2
QM @ay _7(aj K)(pv #2)1(λ _2 rfl)
A6 if_neg 1
BL Heap.get?_push_of_some _ 1
Df @aD _ K _4 1 %0 %0
A7 if_pos 1
Jb @ak _5 1(@ak _5(pv #3)af %0)%0
VC model X.prog 1
Az @aL _4 1
Dj PyProof.Rows.envOfC 1 2 s.heap.objs.size f gK
N6 @aM _12 1(hr.mono %1)aO(@ak _5(pv #0)af %0)%0 %1 %0 %0
aaJ model prog 1
Fv @ak _5 1(@ak _5(pv #2)af %0)%0
IW @ay _7(aj K)(@aD _ K _4(pv #0)%0 %0)1(λ _2 rfl)
NH @aX _9(ahO K)%3 T.adx PyProof.Rows.Boot.«isinstance» 1 %1 %1 %0 %0
Aw Option.some.inj 1
qV @ak _5 1(@ak _5 ai af %0)%0
Ey @dH _ K _3 #2 _ %3 1 %0 %0 %0
Bi List.getElem?_append_left 1
Kf @jg _6 hu(@aD _ K _4(pv #0)%0 %0)1(λ _2 rfl)
BR @afH _4 1 %0
Bn @atD _3 1 %6
E7 @a7 _ K _3 1 %0
TL @ay _7(aj K)(pv #1)1(λ _2 rfl)
Qy @bX _16(@aD _ K _4(pv #0)%0 %0)1(hr.mono %1)aO 2 %0 %0 %0
Br List.getElem?_append_right 1
Cn List.mem_append_right _ 1
JH @bX _16 1 2(hr.mono %1)aO 3 %0 %0 %0
Ir @bp _8 hX.own %3(@a7 _ K _3(pv #1)%0)1 2 %6
W4 @aM _12 1(hr.mono %1)2(@ak _5(@aD _ K _4(pv #0)%0 %0)af %0)%0 %1 %0 %0
AE arrOf 1
y8 @aH _8 1(@ay _7(aj K)(pv #2)ai(λ _2 rfl))ai
Bu List.getElem?_eq_getElem 1
JF @j_ _14 %3 1 2 3(λ _5 gO)4 %6
NU @aM _12 1(hr.mono %1)hX.pass 2 %0 %1 %0 %0
Bp @a_ _8 1 2 aP
Cb @aS _8 1 2 3(aU _)
B2 wpAny_pure 1
Ff @ak _5(pv #0)1 %0
Bs @aV _5 1 2 %0
Qp @acP _14 1(hr.mono %1)hX.pass 2 %0 %1 %0 %0
ED @aH _8 bJ 1 ai
VA @qf _15 1 _2 %3 2 %3 %3 3 4 5(λ _5 gO)6 %0 %6
Vr @aM _12 1(hr.mono %1)aO(@ak _5(pv #1)af %0)%0 %1 %0 %0
Al pendingOf 1
Ax wpAny_bind 1
Ep List.mem_cons_of_mem _ 1
JR @aF _2 1 _4 2 %3(Or.inr rfl)3 %0 %10
RA @ak _5 1(@ak _5(@ay _7(aj K)(pv #0)ai(λ _2 rfl))af %0)%0
Bf Heap.lt_size 1
nc @a_ _8 1(@ao _3(@jI _10 hX %3 %3 cx.m cx.e(@ak _5 eI af %0)%1 %0 %0))aP
iq @bX _16(@aD _ K _4(pv #0)%0 %0)1(hr.mono %1)aO(@ak _5(pv #3)af %0)%0 %0 %0
IQ envOfC qual scope s.heap.objs.size f 1
OR @b_ _9(bo K)%3 T.fC PyProof.Rows.Boot.«list» 1 %1 %1 %0 %0
VN @ak _5 1(@ak _5 ai(@ak _5(@gc _4 bZ %0 %1)af %0)%0)%0
CW List.mem_append_left _ 1
abH @ak _5 1(@ak _5(@gc _4 bZ %0 %1)af %0)%0
VU @aH _8 lB(@ay _7(aj K)(@ay _7(aj K)(pv #0)ai(λ _2 rfl))ai(λ _2 rfl))1
AI ar 1 rfl
DJ @aV _5 1 aoQ %0
Dk absurd 1 Bool.false_ne_true
Cy @aH _8 1 2 3
QG @abh _6 %3 T.gP 1 %0
nV @aF _2 1 _4 2 %3(Or.inl rfl)(@jg _6 hu(@aD _ K _4(pv #0)%0 %0)(pv #1)(λ _2 rfl))%0 %10
B5 List.range 1
Aa av.upd 1
JA seqObj "list" vs.toArray 1
Cg @pw_or _7 1 2
Jc @gc _4 1 %0 %1
EB backTo 1(starEach es X.env)
CY @aH _8 bB 1 2
zF @aM _12 1(hr.mono %1)aO(@ak _5(pv #0)(@ak _5(pv #1)(@ak _5(pv #2)(@ak _5(pv #3)af %0)%0)%0)%0)%0 %1 %0 %0
Kt @dH _ K _3 #3 _ %3 1 %0 %0 %0
abY @jI _10 1 %3 %3 cx.m cx.e(@ak _5 eI af %0)%1 %0 %0
XD @ak _5 1(@ak _5(@aD _ K _4(pv #0)%0 %0)af %0)%0
ZD @jI _10 hX %3 %3 1 2 3 %1 %0 %0
Fg @aS _8 j9 1 2(aU _)
Au wpS_pure 1
x6 @ay _7(aj K)(@ay _7(aj K)(pv #2)(pv #4)(λ _2 rfl))1(λ _2 rfl)
MZ I.turned(: t' s.toks)(λ b o hb e(eb b o hb e))f0 f1 f3 f4 1
Α @aM _12 1(hr.mono %1)aO(@ak _5(pv #0)(@ak _5(@aD _ K _4(pv #3)%0 %0)af %0)%0)%0 %1 %0 %0
zR @bp _8 hX.own %3(@a7 _ K _3(@aD _ K _4(pv #3)%0 %0)%0)(@aI _2 #4 _ cN.nd %3(Or.inl rfl)%9)1 %6
ZK @aX _9(alo rfl)%3 T.alI PyProof.Rows.Boot.«min» 1 %1 %1 %0 %0
HZ @aH _8 cn 1 ai
HR @ak _5(pv #1)1 %0
Β @bX _16(pv #0)1(hr.mono %1)aO(@ak _5(@ay _7(aj K)(pv #2)(@sY _6 mK ai)(λ _2 rfl))af %0)%0 %0 %0
Xu @adB _9 hu(@aD _ K _4(pv #0)%0 %0)1 2 %3
Ay Ne.symm 1
W9 @b_ _9 aeS %3 T.acv PyProof.Rows.Boot.«int» 1 %1 %1 %0 %0
sT starEach 1 X.env
acs gN 1 scope(++ ls cs)s3 H3 s3.heap.objs.size fp(++ X.pn pins)
Bo gg(arrOf st)1
Dr @aap _4 1
xb @b_ _9(bo K)%3 1 PyProof.Rows.Boot.«list»(@ak _5(@ay _7(aj K)(pv #1)ai(λ _2 rfl))af %0)%1 %1 %0 %0
GL @aH _8 bB 1 ai
sL Nat.lt_of_lt_of_le(Heap.lt_size e)1
Dn Nat.ne_of_lt 1
acA bQ I 1 %7
wC @fg _ 1 _11 PySem.F.plainAttrs_list PySem.F.slot_list_extend PySem.F.type_list_extend atn 2(@ak _5(pv #5)af %0)%0 %0 %0 %0 %0 %0
Hu @aS _8 iP 1 2(aU _)
Et List.pairwise_append.mp 1
zB @acP _14 1(hr.mono %1)hX.pass(@ak _5(pv #0)(@ak _5(pv #1)af %0)%0)%0 %1 %0 %0
acF @aM _12 1(hr.mono %1)aO(@ak _5(@ay _7(bV K)(pv #1)ai(λ _2 rfl))af %0)%0 %1 %0 %0
y4 @nC _2(.ty "list")_2 %3 1 PyProof.Rows.Boot.«list» %3 %1 %1
qH bE 1(.int c.into)(bE "out"(.int c.out)%5)
FU List.pairwise_append.mpr 1
acJ @bX _16(pv #0)1(hr.mono %1)aO(@ak _5(pv #4)(@ak _5(pv #3)af %0)%0)%0 %0 %0
acK @aM _12 1(hr.mono %1)aO(@ak _5(pv #3)(@ak _5(pv #2)af %0)%0)%0 %1 %0 %0
n_ @akx _13 1(hr.mono %1)aO 2 %0 %1 %0 %0
zI @bp _8 hX.own %3(@a7 _ K _3(pv #1)%0)(@aI _2 #6 _ aT.nd %3(Or.inl rfl)%9)1 %6
HL backToKw 1(keywordEach %5 X.env)
acO gN X scope(++ ls cs)dQ fA 1 fp pn
Bb c7 f o p i 1
mj @aS _8 1(@aD _ K _4(pv #6)%0 %0)2(aU _)
Ij @ak _5(pv #2)1 %0
HQ @ak _5(pv #5)1 %0
YA BV 1 cm P w K mg base N qual scope f 2 A outer s H E
acU beq_iff_eq.mpr 1
FI List.getElem?_eq_none 1
Fi ws.getD 1(Prod.mk #0(Prod.mk #0 #0))
Fs @aah _8 1 2 3(aU _)
Fm absurd 1 %7
HP List.mem_of_mem_take 1
CO @PW.pt _3 1
γ @aX _9 1 %3 T.aaR PyProof.Rows.Boot.«len»(@ak _5(pv #0)af %0)%1 %1 %0 %0
ade wpAny_callSpecial?_slot(: name(Str.ofString "__next__"))1 F.slot_dict_valueiterator_next(wpAny_call_entry F.slot_dict_valueiterator_next T F.entry_dict_valueiterator_next %4(F.args_dict_valueiterator_next_1 _))
EX vs.getD 1 Value.none
k_ @bp _8 hX.own %3(@a7 _ K _3(pv #0)%0)1 2 %6
CU @aid _5 1
EK decide_eq_true 1
qB @aX _9 1 %3 2 3 4 %1 %1 %0 %0
ρ @bp _8 hX.own %3(@abh _6 %3 T.gP(@ak _5(pv #3)af %0)%0)1 2 %6
D7 Str.ofString 1
Hj Option.isSome_iff_exists.mp 1
adn @aH _8 bJ 1(@ay _7(bV K)(@ay _7(aj K)(pv #1)(@aH _8 bJ(pv #3)ai)(λ _2 rfl))ai(λ _2 rfl))
E4 List.mem_map.mp 1
vS @aM _12 1(hr.mono %1)aO(@ak _5(pv #3)af %0)%0 %1 %0 %0
Cv @amY _4 1
Λ @bp _8 hX.own %3 1(@aI _2 #6 _ bO.nd %3(Or.inl rfl)%9)2 %6
Zk Bq 1 o p i(+ j #1)
V6 @ak _5 1(@ak _5(pv #5)af %0)%0
Bt av.upd 1 _2 2
Gq List.mem_iff_getElem.mp 1
kb @aI _2 1 _ 2 %3(Or.inr rfl)%9
EZ List.getElem_mem 1
EY List.mem_map.mpr 1
EI decide_eq_false 1
ZX @ak _5 1(@ak _5(@aH _8 bJ(@ay _7(bV K)(pv #2)ai(λ _2 rfl))ai)af %0)%0
adC @aH _8 bB 1(@aH _8 cn(@aH _8 eK(@ay _7(aj K)(pv #2)ai(λ _2 rfl))ai)ai)
adD @ak _5 1(@ak _5(@sY _6 mK ai)(@ak _5(@sY _6 mK ai)af %0)%0)%0
adE @bp _8 hX.own %3(@a7 _ K _3(@ay _7(aj K)(pv #0)ai(λ _2 rfl))%0)1 2 %6
EL @pw_or1 _4 1
IH @aH _8 eK 1 ai
FV @aH _8 bJ 1 2
DR EP X pins σ 1
vB @aS _8 j9(@ay _7(aj K)(@ay _7(aj K)(pv #2)(pv #4)(λ _2 rfl))(pv #5)(λ _2 rfl))1(aU _)
Bc A.deeper 1
L4 List.length_eq_zero_iff.mp 1
qz @nC _2 1 _2 %3 2 3 %3 %1 %1
AU cY 1 w
ZL @ax _5(@cB _ K _7(pv #0)(pv #1)%0 %0)1
k8 @ax _5(@cB _ K _7(pv #0)(pv #2)%0 %0)1
GY Int.emod_lt_of_pos _ 1
Ht @pw_and _7 1 2
JT List.dropLast_concat_getLast 1
Bl s1.trans 1
IS absurd 1(Nat.lt_irrefl _)
pS wpAny_newTuple(wpAny_bind(wpAny_newList(wpAny_holding %4)(Nat.zero_le _)))1
Sj wpAny(model X.prog X.w)X.A 1 2 X.xe 3
r_ hs.2 1(Nat.ne_of_lt(Nat.lt_of_lt_of_le(Heap.lt_size e)(I.ok.U7 x c Qt hc)))
Av pr ps 1
adZ @aB _5(@cB _ K _7(pv #0)(@aD _ K _4(pv #2)%0 %0)%0 %0)1
ς comprehension(.ListComp elt([(⟨ tg iter ifs #0))scope pos)scope X.env(firstIterPos([(⟨ tg iter ifs #0))pos)(newList %5)false(eval iter X.env)1
E3 Nat.le_trans 1 2
Oc @ak _5(pv #3)1 %0
aed upd H5 1(.lst(++ ys([ y)))
aee amC P w K mg base cm N qual(au st)f gK A outer s H 1
BO absurd 1 2
aeg bE 1(.int c.out)%5
QW Bq 1 o p(+ i #1)j
FJ List.replicate 1 2
Bh s1 _2 1
BY s2 _2 1
pA @rB _5 hu 1(@aD _ K _4(pv #0)%0 %0)
wM @kT _ 1 _7 %3 T.gH(@ak _5(pv #1)af %0)%0 %0
Τ @kT _ 1 _7 %3 T.gH(@ak _5(pv #4)af %0)%0 %0
aeo @ak _5 1(@ak _5(pv #4)af %0)%0
ZP hs.2 1(Nat.ne_of_lt(Nat.lt_of_lt_of_le(Heap.lt_size e)I.ok.above))
Aj lstP 1
FN gg(arrOf aW)1
FH ps.getD 1(Prod.mk #0 #0)
FT BF f o p W i j 1
Oy BindsTo.of_defaults rfl 1 rfl rfl rfl
EO List.toArray 1
X' wpAny_typeNameOfWhole_valiter 1(wpAny_pure %4)
px PySem.W.fnOf 1 qual 2 3 4 5 kV doc pm an gK ct
yf @a_ _8(@aS _8 iP(@aH _8 cn(pv #4)ai)ai(aU _))1 2
EA W.mg_of X G 1
qe he pins 1 σ 2 _ 3 4
IC wpAny_holding 1
LX Heap.get?_update_other _2 1
lE @a_ _8 1(@ao _3(@aL _4 jD))aP
vE @sY _6 mK 1
Q_ PySem.W.instObj 1 s.heap.objs.size
Dv Bq f o p i 1
Hg Int.emod_nonneg _ 1
Ie of_decide_eq_true 1
E2 False.elim 1
FW hf 1 %7
aeL wpAny_call_entry F.slot_dict_valueiterator_next 1 F.entry_dict_valueiterator_next %4(F.args_dict_valueiterator_next_1 _)
EH as.map 1
Vo fnOf x 1(dw st)(cP st)(au st)2 kV 3 pm an 4 ct
KI bL(Bq f o p i(+ j #1))1
aeP wpAny_typeNameOf_valiter 1(wpAny_pure %4)
Cd Prod.ext 1 2
RZ hl i ys σ H(Nat.le_of_lt hi)1
Di ForInStep 1
Qf fj 1 c.out c.into vo.1 vo.1 vo.2
Hv fY c 1 c.xs.length
Xr beq_iff_eq.mp 1
Gr upd 1 2(.lst %5)
YU bE 1(.int W)(bE "trails"(.ref tr)%5)
Ob List.mem_of_mem_drop 1
IP wpS_forRange 1 2 %4 %4 3
Jf List.getElem?_inj 1 nd
vI @ax _5 1(@ao _3(@cB _ K _7(pv #0)kP %0 %0))
afc @ak _5 1(@ak _5(@sY _6 mK ai)af %0)%0
bR ha pos pins 1 σ 2 _ 3 4
Ho tK 1 %2
MO @aox _6 1 2 %0 %0 %0
zA wpAny(model X.prog X.w)X.A(eval b X.env)(λ u rk(wpAny(model X.prog X.w)X.A(f v u)Q X.xe rk))X.xe 1
Ku Int.eq_ofNat_of_zero_le 1
afi ha pins 1 σ 2 _ 3 4
Eh bF 1 o p i j
EV absurd rfl 1
qD @ax _5 1(@ao _3(@aL _4(pv #3)))
pC @ax _5 1(@ao _3(@aL _4(pv #2)))
J8 @pw_and1 _4 1
OF holding 1(getMethod ov m pl)
FP wpS_mono 1 %4
Z7 I1.ur 1(I1.cc.fresh(Nat.le_refl _))
II assignEach 1 X.env
zr @ax _5(@cB _ K _7(pv #0)(pv #3)%0 %0)1
ZZ @adB _9 hu 1 2 3 %3
afu @aH _8 bJ(@ay _7(bV K)(pv #2)ai(λ _2 rfl))1
afv @aH _8 cn(@ay _7(aj K)(pv #2)ai(λ _2 rfl))1
K2 List.mem_append.mp 1
afx keywordEach %5 1
K8 List.nodup_cons.mp 1
Oq dh f1 c.out c.into 1
Qv bs.free b o 1 hn %7
NR List.pairwise_cons.mp 1
N0 b.getD 1(Prod.mk .none .none)
Kd a.getD 1(Prod.mk .none .none)
m_ @aB _5 1(@ao _3(@aL _4 dF))
FR @aph _5 1
Km List.getElem?_reverse 1
JM Nat.lt_of_lt_of_le 1 2
ZE @aH _8 bB(pv #2)1
X4 jE 1 2 3 4 %4 %1 %1
zc @aim _8 %3 T.gP 1 %0 %0
IF ForInStep.yield 1
Qu @fR _5 eI 1
pL Nat.le_of_lt 1
IX xs.getD 1 .de
Fy dU 1 shut
ZW compEnvC scope(gv X.env scope.names %5)1 X.env
Nn aoY(+ p k)r 1
afS @aS _8 iP(@aH _8 cn(pv #4)ai)1(aU _)
wZ @kT _ 1 _7 %3 T.gH 2 %0 %0
RJ Nat.le_trans(fB _3)1
WI backTo 1(starEach(:: e es)X.env)
W8 PySem.mem_of_lookup 1
FQ zs.map 1
J2 c.2.2.2.1.push 1
afZ C.tr _ 1 _(M.ia _ hx)_(M.ia _(List.mem_of_getElem? hu))2(M.sa.at %2 ie hu)
JS inClass(top #14)1
vC compPost(model X.prog X.w)X.A X.xe use 1(.ref s2.heap.objs.size)s3.heap.objs.size
Md dU 1 %5
CV s5 _2 1
pI v.ov 1 2 r1(V0 _2 %2 %2)m1
Qi upd H4 1(.lst(++ ul us))
N_ List.mem_filter.mp 1
HA I.cc.fresh 1
Vv tupleKind_room_in1 1
GF Obj.mapSeq 1
Yv List.mem_filterMap.mpr 1
eO Rh(gN X scope(++ ls cs)dQ fA C fp pn)ifs 1
gI PE(gN X scope(++ ls cs)dQ fA C fp pn)elt 1
zk qx(: n c.xs.length)(: m c.ys.length)(: i q.1.toNat)(: j q.2.toNat)%2 1
VZ hl _ ys σ H(Nat.le_refl _)1
Im c.xs.map 1
J7 c.ys.map 1
HW Gb 1 o p W i j 2
Yi cs.foldl(λ s c(AX s c r))1
GP s2.trans 1
sO PG(gN X scope(++ ls cs)dQ fA C fp pn)tg 1
KH Nat.lt_irrefl _ 1
Cu s4 _2 1
Fq av.upd 1 2 _2 3
hV upd(upd H1 dx(.own x))1(.ins az dx %5)
QT bL(Bq f o p(+ i #1)j)1
IJ M.ia _ 1
Fp M.ib _ 1
LH wpAny_truthy_bool 1
j8 gv 1 scope.names %5
NM Calls.spliced_nil 1
tY I1.laid(: t' s1.toks)(λ b u e(Heap.get?_push_of_some _ e))(Nat.le_refl _)1
agG upd H' 1(.tup([(.str x)(.str y)(.int pr)))
agH ho pins 1 σ 2 _ 3 4
Ve @awN _10 1 2 3 4
w9 q _ 1 _4 2 3 ae %2 %2 %2 %2
Hy s.heap.push 1
DM o.push 1
Fo wpS_bind 1
Hi Prod.mk.inj 1
Jg agm f o p i j 1 r
WV absurd(⟨ _ one rfl rfl)1
DP I.list 1
qW upd H 1(.dT(putK km(bf c)(.ref t)))
Hf upd H a 1
Eu congrArg 1 2
agU cY X.prog 1
KO Nat.mul_le_mul 1 2
sQ tr %2 %2 %2 1 2
LB o8 d.worth wy il 1
Dd s3 _2 1
YK Option.map_eq_some_iff.mp 1
BQ pure 1
RN List.mem_flatten.mp 1
wX upd(upd H' t(.tup([(.str x)(.str y)(.int pr))))1(.lst(++ xs([(.ref t))))
ye I7.pin 1(List.mem_append_right _(List.mem_append_right _(ik hb e)))
ahe I'.pin 1(List.mem_append_right _(List.mem_append_right _(ik hb e)))
ahf KQ 1(ws.getD i(Prod.mk #0(Prod.mk #0 #0)))
Fb eg.trans 1
WT Heap.get?_push_ne _3 1
N3 upd H 1(.lst ys)
sj upd 1 dx(.own x)
Dm s8 _2 1
EG ns.map 1
mS Bq f1 c.out c.into 1
ahn av.upd(: o(.lst(c.ys.map V.str)))1
sJ av.upd(: o(.lst(c.xs.map V.str)))1
nq mM(: z cb)1 %2 %2
XR xM 1 2 %2 %2
CI Sf 1 os
ZH I1.cc.fresh 1
IU i4 X pins 1 b
Y3 List.length_pos_iff.mpr 1
XH M.ne _ 1 _ 2 z.symm
K' h 1 %7
Gg Value.int 1 2
wz I.ok.hd 1
xQ bE "trails" 1 %5
Nb Nat.le_of_eq 1
C_ V.ref 1
Ex eC.same 1
oA Nat.lt_of_succ_lt 1
Kz cO c.ys.length 1
Ft ig o 1 e b
NX xs.toList.drop 1
ahH wpAny_newList(wpAny_holding %4)1
HY s5.trans 1
O8 Φ k d p n c t 1
zp d.ok(: R(λ fd(aZ P w K mg base(cY P w)cm k f fd ps sp)))ok 1
ahL piecesOf(behindTheImports pq)(env pq)(cE pq)1([(topFrame qP))
y6 @aB _5 1(@ao _3(@aL _4(pv #5)))
GG dh f o p 1 2
ll AL C 1 %2 %2 %4
RO mf(: xs(arrOf st))1 2
JV KZ 1 o p W i j 2
ahR @qf _15 1 _2 %3 2 %3 %3 3 4 5 6 7 %0 %6
qO absurd 1 %2
kx gf 1 c.out c.into c.least W gs ds
sE bs.keep b o 1 hn hb %7
qF oG _2 %2 %2 1
YE List.mem_filterMap.mp 1
XQ cY P w outer H s E 1 zU
ahY C.no(M.ib _ hy)(M.ia _ hx)(λ z(M.ne _ hx _ hy z.symm))1
qR hl 1(List.mem_cons_of_mem _ hy)
Y8 wpAny_rule 1
JC c.2.1.push 1
E9 alB 1 X G
vw wpS_forRange 1 2 %4 %4(⟨ rfl #0 #1 rfl %2 %2 e %2)
MY gg(arrOf eh)1
yk @ax _5 1(@ao _3(@aL _4 dF))
Sn List.take_append_drop 1 2
IL looks_pair 1 2
qA hi pins 1 σ 2 _ 3 4
G_ l' ls js 1
h_ wpAny_letGo 1
OO fG 1 %4
Z5 @adp _7 1 2
U1 av.upd(: o(.lst %5))1
JW aas 1 wy il pr
qE Nat.le_trans 1 %1
vL putK 1 2(.ref t)
M4 SameBut.apK 1 2 sb
EW s6 _2 1
hU importedModules 1
Kl putK kvs 1 2
Ν @ay _7 aeU(pv #3)1(λ _2 rfl)
De s _2 1
Oz plainId_quiet 1 _
aiz b.no 1 %2 %2 %2 this
Qc inClass(top #7)1
QU @atO _5 1
aiC c.setIfInBounds 1 q.1
aiD model 1 w
Nr @avG _4 1
jz seqIndex_neg %11 1
NC M.sa.sublist 1
N8 m.low x hx y 1
NW M.sb.sublist 1
Fz TR.keep 1
OQ tupleKind 1
Ii fs.map 1
jA PySem.W.methodObj(.ref f)1
KS argBest bt 1
aiO Bq 1 o p(+ i #1)(+ j #1)
JZ cO(+ m #1)1
Ω dU 1 sh
YV eg.1.trans 1
wY ks.toArray.zip 1
Nz Mf 1 o p i j 2 r
XJ @aiM _6 1
Ji s3.trans 1
xC @fR _5 1(@fR _5 eI yh)
mG @afn _6 hX.own 1 2
rq seqObj "tuple" vs.toArray 1
Gj Vb n m 1 2
Ew av.upd 1 2
sM BindsTo s fd(⟨([ u)%5)1
xX hs 1 2 ys σ _(y xs(hl i ys σ _(Nat.le_of_lt hi)p))3
Zv List.drop_eq_getElem_cons 1
wt h pins s σ H _ I 1
ajf wpS_get 1
Np b.extract t 1
HJ h1.push 1
Xp Nat.lt_succ_of_lt 1
VX fY 1 %5 c.xs.length
iS @a_ _8 1 2 3
GX TF.keep 1
wO Walks.range(: prog X.prog)(: w X.w)(I.ok.hd hc)it 1 2 3
rf I.ara 1 hH e %7 2 %4
LK m.BC y hy x 1
Gk Option 1
zO gN 1 scope(++ ls cs)2 3 s.heap.objs.size fp(++ X.pn pins)
ajr ig 1 c.into e b
jV fr 1 n m
cI oG 1 2 3 %2 %2
Oa Paired.length 1
pU List.mem_iff_getElem?.mp 1
QD abQ 1 c.into e b
Zy @mI _8 1 2 3
ajy behindTheImports 1
sG upd H 1(.tup([(.int i)x))
YZ List.getElem_inj 1
ajB jG 1(bf g)
Es fj 1 o p 2 3 4
Vs lN(λ _ true)1
Ys z.cps.toList.map 1
J1 s4.trans 1
Jj absurd 1 hn
ajH eb b o hb 1
Qw agy 1 %2
VP iT d.worth wy il 1
Qg wpAny_dictEntries 1 2 3
zt aY 1(.int c.into)(bE "out"(.int c.out)%5)
GK s7 _2 1
Hh upd H x 1
Ea upd H 1 2
jW hb pins s1 σ H1 1 I1 q1
H_ rel.val 1
Zq sliceBounds lo hi none 1
Hx fs.take 1
Hq elem' b 1
ID elem' a 1
ajV q _2(.refl _)1
KU P2 lt a b 1 2
JY aeJ lt a b 1 2
LI AX s 1 r
Y2 @avd _5 1
jc List.getElem?_set_self 1
ZU wpAny(model prog w)A 1 2 E 3
N5 ps.getLast 1
Ka C.tr _ 1 _ 2 _ 3 4 5
VH dh 1 c.out c.into
Yh wpAny_execs_nil 1
ZC inClass(top #8)1
ζ q0 1 _ 2(Mu.trans(av.upd r6))(Mu.free r6)ae
K4 Txt.slice 1 2 3
jO wpAny_dictEpoch L6 L7 1
kD Builtin.«list.sort» 1
U4 @fR _5 1 2
zG envOfC qual(au st)s.heap.objs.size 1 gK
akn C.tr _ 1 _ 2 _(M.ib _(List.mem_of_getElem? hu))3 4
RE ok.tr _3 1 2
KA I.oB x c 1
FK hf 1 hb
ZV congrArg List.length 1
RD h1.trans 1
Zh Calls.evalArgs_plain 1
aku dU c shut i 1
wH wpS_lift 1
Nk es.map 1
fS List.mem_flatten.mpr 1
aky av.upd(: o(.lst mn))1
zS @apz _ 1 _11 2 3 4 5 6 %0 %1 %0 %0
χ absurd(List.length_eq_zero_iff.mp hk)1
sf List.getElem?_set_ne 1
ME boot_heap 1
X6 I.base.free b o 1 2 3
nz letOwnedTupleGo 1 2 3
VO B6 b o 1 hb
zu wpAny_setField ho hd %7 1
Ly dU c shut 1
akI Iv.turned(: t' s.toks)1 f0 f1 f3 f4 f5
akJ y 1(hl i ys σ _(Nat.le_of_lt hi)p)
ZT PySem.W.plainGet_of 1
zl bE 1(.ref a)(bE "worth"(.int w)%5)
Y7 Txt.slice 1 none 2
pJ List.mem_filter.mpr 1
qU yS(: o o)(: p p)1 hl
U8 looseW(q pq)1
lA I.base.keep b o 1 2 3 4
akR kR 1 cell other
Zw wpAny_attempt 1
Wv hg 1 %2
VL vs.getD 1 .none
akV V0 _2 %2 1
Z1 pm.mem_iff.mp 1
qI @rB _5 hu 1 2
wU agW ok hr hg hm hk hb 1 hx ha vZ he rg
Kc abt _3 1
ala I2.ur 1(I2.cc.fresh(Nat.le_refl _))
Xa Jp %2 1
Va adb 1 %2
pT PySem.W.instObj 1 dx
Ow xZ cf.heap 1
t8 bE "near"(.ref l)1
bS HT.lD 1 #0 lo
qN xB(xs.getD j .de)1
ali firstIterPos([(⟨ tg iter ifs #0))1
mE cb.cps.toList.take 1
Qh wpS_modify 1
Qj HO.tup.inj 1
OH aqe tr W 1 dk
Th s.heap.update 1 2
Ξ ahG C hk h1 1 2 %4
alq @j_ _14 %3 1 2 3 4 5 %6
Qe @aeu _3 1
Vu σ.set i 1
Jz bE f 1 fs
su ajX I hg hm 1 2
WW alP C sp l_ E 1
kr wpAny_specialOf 1 2 %4
tP wpAny_seqItems 1 rfl 2
EJ cO m 1
JG vW n 1 ps
Gm b.mem 1
Rt c7 f1 o p i2 1
Q6 R.told.mem 1 2
K7 es.take 1
JP s1.free 1
alG @aiF _11 1 2 3 %0 %1
Kr s7.trans 1
LF s6.trans 1
ZI topFrame 1
alK h2 1 %2 %2
xy awO 1 %2 %2
wQ Heap.get?_update_ne _4 1
MN abQ o 1 e b
OD Case.pw_of 1 2
Jd C1.keep 1
K_ C3.keep 1
xw q 1 st 2 rfl(λ _2 rfl)a1 a2 a3
tU hc pins s1 σ H1 vs us 1 I1 r1 q1
w6 asR 1 2 %2 %2 %4 3
J3 bQ I q 1
jU I.mod.glob.keeps 1
qh env.cells.lookup 1
tX ws.map 1
alY kp b o hb 1
Ko ahA f o p 1 2
Ik AD n m 1
zo lN(λ e(decide(= e.worth W)))1
pZ lz(fs.lookup f)1
Qd x4 b _ 1 J6
ame m2.dn 1(.inl(beq_iff_eq.mp e))
vM hv 1(List.mem_cons_of_mem _ QL)
R7 FL.2 k 1 ek
amh C0(λ e(decide(= e.worth W)))1
Vg I.ok.bs b o 1
xn h 1(List.mem_cons_of_mem _ hw)
yM x.above 1 2(PySem.mem_of_lookup h)
YB a.extract t 1
Yq k.tr _3 1
amn Case.pw_out 1
si F.len _4 1
YN DecidableEq 1
V1 ajn 1 wy il pr
Oe acg 1 w
lh upd H 1(.lst us)
Fh aG e 1
amv I.ok.U7 x 1 Qt hc
amw backTo 1(starEach args X.env)
pO ajj X pins σ tg 1
HB h _2 1 2
qS List.of_mem_zip 1
ky jE I hg hm hv 1 hn 2
YL dh 1 o p 2
wG OS 1(List.mem_of_getElem? hk)
amD hn 1(List.mem_of_getElem? hk)
ZR absurd 1(no i j)
tZ oG 1(List.mem_of_mem_take hc)
amG List.getElem?_zip_eq_some.mp 1
Θ upd H3 1(.dT(jG km(bf g)))
NQ abI I.cc 1
amJ hideAll_get _ 1(B6 b o q hb)
Ni c.pw_in 1
zJ Heap.get?_update_self _ 1 rfl
LZ tuples' 1
OA TA.same 1
KG s9 _2 1
zd backTo 1(starEach %5 X.env)
VE ha pins 1 σ 2 3 4 5
yI hl pins 1 σ 2 _ 3 4
amS bE 1(.int w)%5
qQ ps.zip 1
OJ r.append 1
amV hl 1 ys σ _(Nat.le_of_lt hi)2
υ wpAny_pyIter_list p.isList 1
KR yo n l 1
lq wpAny_tryCatch 1
amZ Heap.get?_update_self _ ho 1
Iy Jl a b 1 2 3
Ia Jm a b 1 2 3
Ox k.mr c 1 h
Zs wj 1 c.ys.length
ZG b5.free ae 1
Ro W #0 m σ 1
ko seqIndex_of h0 1
ug Calls.callWith_builtin rfl 1
SH s3 x hx 1 hy
ank b.no 1 2 3 4 %2 %2 5
anl a'.app 1(⟨ %2 %2)
pz yQ(: o o)(: p p)1 2 3
ba pm.mem_iff.mpr 1
zb upd H 1(.lst(xs.set j v))
anq @aqX _ 1 _5 2 %0 %0 %0
anr @awZ _13 1 2 3 4 %0
v5 hb wh pins s1 σ H1 1 I1 q1
ant wpAny_pyIter_rangeiter st 1
η Array.getElem?_eq_getElem 1
NJ anz tr W 1 2
vO a9 1(λ _(⟨ rfl rfl))
anx upd H1 s1.heap.objs.size 1
zH upd H1 1(.t9 o(.dT kvs))
NA upd H' 1 2
Zr wpAny_standAt 1
oj bs.getD 1 false
anD Wk.frame _3 1(up _)
pF tJ 1 g o p 2
Ε wpAny_notOrdered_dict 1 %4
t5 Obj.mapFields 1
zE fG 1(wpS_bind(fG ex %4))
Vm power' N 1 2 N
pK seqEpoch_at 1 2 rfl 3
K6 oI w 1 r 2
nE jL 1 gs.flatten
sD wpAny_Name 1 hd
qT Constant_none 1
so CX outer H s E 1 2
pB PySem.call 1 vs
vF Ol 1(.inr %2)
JQ aje 1 2 e b
JE B 1 L L
ο beq_eq_false_iff_ne.mpr 1
Υ upd H 1(.lst xs.reverse)
anV alg b o 1 hx
zy PyProof.Rows.callWith_type1 1 2 3
kq hx.keeps _2 1
Io V.int 1
qC is.getD 1 #0
Rr Value.ref 1
J5 Array 1
xT List.Perm.append_left _ 1
JD gg xs 1
K9 mem _ 1
aog @ami _ 1 _8 2 3 4 5 6 %0 %0 %0
OB t1 _2 1
zN Bool.and_eq_true_iff.mp 1
aoj absurd(Heap.lt_size q)1
U9 ar(: j #0)1
zh m2.fb 1(beq_iff_eq.mp e)
xH tr _3 1(sy _2 z)
S_ uU _3 1
aoo aZ 1 2 3 mg base(cY P w)cm 4 5 fd ps sp
IK ajD dl 1
xk k4 _2 nw 1(s2 _2 tO)
wD upd(upd H3 dy(.own y))1 2
MI xs.map 1
pN TP X pins σ 1
aou f(.int i t)1
Og I.pin p 1
Pa sb.2 1 hb
Q7 A.under 1
j6 h 1 _(I.tok _)2
M7 bH kvs 1
WH is.map 1
kJ Nat.ne_of_gt 1
Fl c.pw 1
aoD Obj.data_mapDictKeys 1 _
NV P.drop 1
Mx P.take 1
zx q H' 1 ws s1 hl mh tO O4
Pb b'.mem 1
Zx seqObj "list" 1 2
pQ z.symm.trans 1
wI List.Pairwise.imp_of_mem 1 2
F8 D.ms 1 2 3
OC PS.same 1
aoN fin its r' hz h' c' kp 1
Ζ List.length_filterMap_le 1 2
vD List.take_of_length_le 1
vT Around.under_plainId 1 _
Kn iW o p 1
p7 es.getD 1 dflt
vj upd H 1(.lst(++ xs zs))
om dh f1 o p 1 2
aoV @amy _5 hu 1 2
aoW Nat.le_of_ble_eq_true 1
zP I1.kept(: t' s1.toks)1
zv List.nodup_append.mpr 1
W_ Sb pq 1 os
pE σ.set 1 none
Xj ama 1 ta tb
ot cellsFrom 1 2 %5
WM atKey xs 1
ape k.map 1
ZJ typeIs_int 1 2 t
Sl toString 1
Kj dS 1 2 x y
Zl ys.getD 1 .de
qG l.filterMap 1
vt wpAny_fieldsOf ho hd 1
apl I2.cc.fresh 1
XY failedOf 1
VT mergeAt' 1
tQ s2 1 2 %2 3 4
mF s1 1 2 3 4 %2
Vt kat_cons 1
Je mU es 1
ξ Mu.trans 1
yl s8.trans 1
Vl t2.trans 1
y9 z.sameBut 1(MT y c e)
N9 x1.1 b 1 2
ic I.kept 1 keep
Γ a4 1 %2 h2
Xw TR.tb.at 1
Δ fencedOpening treeTable 1 2 3
apC ik %7 1
apD PySem.evalArgs_none 1
uB dW 1 ps(- ps.length #1)
apF t.mD 1(hs.subset hd)
apG G.iff(λ a b %4)1
Q2 hK _2 1
xc checkCount "sorted" 1 2 _
apJ List.getElem?_range 1
oh Vals.append 1 2
qX jG kvs 1
wR Calls.spliced_cons 1
ku gv env 1 acc
apO bL(tJ f1 g o p i)1
Q0 eC.lst 1
sX Kq(f i j)1
Gv w.ok 1 2
Hl lf f 1
Qx Q.drop 1
R5 Q.take 1
N2 T _2 1
apW Nat.succ_ne_self _ 1
xu List.append_of_mem 1
U5 g.e _2 1
DT upd 1 2 3
Nf M8 lo 1
Xz e.trans 1
aqc adJ wi ls js 1 tt te
ω z.cps.toList.drop 1
wJ wpAny_newObj_type 1
XI ty 1 _ Px
Zu ok.sy _2 1
VB R.ok 1 hd
aqi @ajG _ 1 _7 2 3 4 5 %0 %0
Y_ BZ k 1 hk
MF s1.eA 1
VG sH.free 1
W0 ds.take 1
aqn @anH _ 1 _6 2 3 4 5 6 7 %0 %0 %0
Kh jj aQ 1
τ amd 1 %2
aqq h2 pins s1 bK H' 1 I' 2
Wz I.tuple 1
Td hd σ H 1
V7 arC I.cc 1
ZF uy I.cc 1
Sz uz I.cc 1
aqw mM %2 1
wF List.append_assoc 1
N4 gb 1 ht
aqz C.no 1(M.ia _ hx)2 hb
Yo m2.dn M 1
Kg Jp 1 ie
aqC arF 1 %2
L3 aom dl 1
Mz P1.NN 1
X1 P6.free 1
SQ sN.free 1
aqH acg X.prog 1
Ra upd H1 1 2
aqJ fs.lookup 1
R1 I.cc b 1 2
aqL intBits_le_64 h1 1
E8 q _ 1
Η kR cb cell other 1
aqO evalArgs_kwB rfl 1
y_ cO 1(tJ f1 g o p)
m7 setPending 1 2
pe setArr st 1
aqS List.map_snd_zip 1
Yk ji 1 o p 2
Om vl 1 o p 2
xS k.tr _3 h1 1
JB D.mv 1
fQ d.row.map 1
aqY Nat.lt_of_le_of_lt 1 2
aqZ G4.cast %4 1 2
ow I.rj 1 o hk
yB up 1 2 %2 pW 3
Rl z.elim 1 2
tV C0(λ _ true)1
zK hb pins 1 2 3 _ 4 5
vk ho pins s2 σ H2 1 2 3 4 5 I2 rx ry 6
Ki ltAt' 1 2
arj aaH 1 %2 2
eJ k.mr _2 1
XC aoP _2 1
ZA sA _2 1
YF anI _2 1
ε I.laid(: t' s.toks)1 2 3
vx I.agb(: t' s.toks)1 2
vK Ah gK 1 outer 2 3 vs 4 5 hr DC asa
art List.all_eq_true.mp 1 2 3
aru size_of_entries 1
arv b.pm.mem_iff.mp 1
Ψ Heap.SameBut.update 1 2 3
Y9 I.tuple 1 2
sW a2.e _2 1
nh g2.e _2 1
YJ zZ.free 1 2
XF afy tr W 1 2
"#
def tabu:=r#"
gC ⟨ rfl rfl rfl %8 rfl %8 %8
FA ⟨ rfl %8 %8 %8 rfl rfl %8 %8 %8
gD λ gK A outer s H vs Q E hr h hX %4
A3 %2
Am λ vs H Q E h %4
A9 %7
Ak VC X.w
AR aaJ w
Bj Nat.le_refl _
Ab lf f
Zg W.fnOf "best_through" "best_through"(dw bg)(cP bg)(au bg)(.ref adF)ass atP aiV adf gm aoC
Z_ W.fnOf "best_ending" "best_ending"(dw bD)(cP bD)(au bD)(.ref aaM)asW awu awM agv hZ axD
Be aN(Prod.mk i j)
Ba pv #1
arN AS(Bp(Hu(pv #1)(pv #2))(A8(Az(FO K))))(AS(AZ #3 je.nd(@GR _7 hu(FO K)(CU(Fv(pv #1)))(⟨ rfl rfl rfl rfl)))(AS(lE(Bx(FR(pv #3))))(A8(Az(FV(FO K)(pv #3))))))
Bm pv #2
BP pv #4
arQ A8(Ir(Af #2 iK.nd)(A8(DB(E7(Df(pv #2)))(Ey(Bs(Af #3 iK.nd)(DJ(Af #4 iK.nd))))(A8(MO jD(@M5 _7(Fx(pv #3))(pv #4)set_list %6))))))
arR Ir(Af #2 iK.nd)(A8(DB(E7(Df(pv #2)))(Ey(Bs(Af #3 iK.nd)(DJ(Af #4 iK.nd))))(A8(MO jD(@M5 _7(Fx(pv #3))(pv #4)set_list %6)))))
z_ W.fnOf "__init__" "Terms.__init__"(dw bG)(cP bG)(au bG)(.ref acn)arO ahk ajo akt aaX anC
Dg λ hh %4
J' List.take_sublist _2
Bg pv #3
EN %1
arX DB(E7(Df(pv #2)))(Ey(Bs(Af #3 iK.nd)(DJ(Af #4 iK.nd))))(A8(MO jD(@M5 _7(Fx(pv #3))(pv #4)set_list %6)))
DH %11
Bv pv #0
Dt EH V.ref
Bw AE st
LD wH(Y8(⟨ rfl %4))
Hd aN(Prod.mk(+ i #1)(+ j #1))
L1 List.drop_sublist _2
ash Ao(tR T.fC)(Ao(tR T.fC)(Oc(AB(OR(AB(pv #4))))))
G7 afi s H I h
Fj qe s H I h
zC BK bU(Ao(G9(pv #3))(Ao(G9(pv #4))(RA(G9 ai))))
KD λ b(=(H2 b)none)
CP acA q
DA Md c
Fw λ h1 %4
Jh λ z(e(dJ z))
asr AZ #2 dO.nd(CY(CY ai(HZ(My bA)))(@aH _8 lB(W9(AB(Fs oC(pv #1)ai)))ai))
Cw acU z
asu Ao(G9(pv #3))(Ao(G9(pv #4))(RA(G9 ai)))
GA FQ V.str
asw Y8(⟨ rfl %4)
Ca pv #6
He λ h2 %4
DK pv #5
asA AZ #3 ck.nd(CU(ZX(ED(E5(pv #2)))))
asB A8(Az(@mI _8(Bx(FR(pv #0)))jD(FV(CY(pv #1)(pv #2))(pv #0))))
asC CY(CY ai(HZ(My bA)))(@aH _8 lB(W9(AB(Fs oC(pv #1)ai)))ai)
Ez Ω c
asE AZ #3 je.nd(@GR _7 hu(FO K)(CU(Fv(pv #1)))(⟨ rfl rfl rfl rfl))
N7 λ hh(Fm hh)
asG FV(pv #1)(Cy cn(My bA)(GL(pv #1)))
VY F.args_list_ne_2 _2
S9 AB(pv #1)
asJ Az(@mI _8(Bx(FR(pv #0)))jD(FV(CY(pv #1)(pv #2))(pv #0)))
Nh h k d p n c t
JJ bR s H I h
GQ agU X.w
asN @mI _8(Bx(FR(pv #0)))jD(FV(CY(pv #1)(pv #2))(pv #0))
asO A8(Az(@mI _8(Bx(FR(pv #0)))jD(FV(pv #0)(pv #1))))
asP AZ #5 cR.nd(@HK _7 hu(FO K)(pv #4)(⟨ rfl rfl rfl rfl))
asQ MO jD(@M5 _7(Fx(pv #3))(pv #4)set_list %6)
Ρ px x(dw st)(cP st)(au st).none
QH λ _2 False
RB AB(pv #0)
KC FO K
RH λ _3 h h
Ot AB(pv #4)
asX @GR _7 hu(FO K)(CU(Fv(pv #1)))(⟨ rfl rfl rfl rfl)
Dh q pq
asZ Az(@mI _8(Bx(FR(pv #0)))jD(FV(pv #0)(pv #1)))
Nc agH s H I h
GU OO ex
atc C9(AB(pv #1))
atd Bd(Bd(pv #8)(pv #10))(pv #11)
KN tX V.str
KY λ h %4
Kb λ _ %4
ath @M5 _7(Fx(pv #3))(pv #4)set_list %6
ati @mI _8(Bx(FR(pv #0)))jD(FV(pv #0)(pv #1))
atj Az(zS K l0(hr.mono %1)(pv #4)%3 jP)
Gp wz hc
Zz λ c q(aiC(+ j q.2))
Qa AE(Nn eh)
Kk λ _ h h
xf E5(pv #1)
vJ QG(AB(C9(AB(Fx ai))))
sk λ hh(qO(Ie hh))
zM Dj "_law_round_shown"(au cw)
wm px name params body scope dV
att C.ask hk(Fp hy)(IJ hx)%4
atu @HK _7 hu(FO K)(pv #4)(⟨ rfl rfl rfl rfl)
xW hr.mono %1
Z0 wY vs.toArray
atx CU(ZX(ED(E5(pv #2))))
EM pv #7
vp QG(AB(C9(AB(pv #1))))
l6 tR T.fC
KL Oe P
Fn g i j
atE zS K l0(hr.mono %1)(pv #4)%3 jP
pM zK s1 σ H1 I1 q1
vP PySem.F.args_dict_get_2 _2
Hs ajf %4
Rq B7(tK t ht)
SR Nat.zero_le _
Z6 dJ z
uL Dj "Groups.unite"(au fJ)
G6 pv #8
tF λ x x.1.isSome
aR λ x1 x2(++ x1 x2)
tM λ z(hc(Ep z))
HC aiD P
O_ K w.params
vA Heap.get?_push_size _ rfl
K5 Fy c
HE jV f
atY List.filter_sublist.map _
HF JA #0
Gh lf f0
RG Jb(pv #2)
Oo qH "into"
aud λ c v hc q(k c v %4 q)
aue h pos pins s σ H _ I hq
vi Gr H2 s2.heap.objs.size
auh B2(Ax(Qg L6 L7 %4))
oe Nn eh
RY My bA
L8 G9 ai
yE AB(Fx ai)
Z2 amn %2
aun AB(C9(AB(Fx ai)))
sV hU p.main.body
pD agH s1 H1 I1 q1
QK λ z %4
RL Nk V.ref
Oh ajr c.out
fF λ b(=(H b)none)
Yu OQ(Oe P)
Xe qA s H I h
wN λ i ys σ H hi p hi
Tp λ _ True
auz ZX(ED(E5(pv #2)))
Ι AZ #5 jQ.nd(acK g7)
w8 AZ #3 e8.nd(adC ai)
auC AB(C9(AB(pv #1)))
auD ED(afu(E5(pv #1)))
auE AB(OR(AB(pv #4)))
sF aou(.int j u)
K0 ape kV
θ λ h' c' kp e(aoN e)
μ B2 %4
uq λ i j vV hj %2
auK aqZ %2 %2
p6 Fx ai
Μ Cv(Bn(W4 g_ aO))
auN h pins s σ H Q I hw
zQ hc pins s σ H _ I h
auP hv pins s σ H _ I h
vN λ v _(= v(.bl true))
Z' S.has I.ok
J0 aed D
auT F.args_list_eq_2 _2
Gi kM r
VV lf(Ω c)
Rp λ h3 %4
t6 Fv(pv #1)
auY ED(pv #2)
tS Df(pv #2)
ja %12
xl HA(Nat.le_refl _)
avc Yv(⟨ env he hf)
jS Vu(some v)
ave nz tg(.ref it)u
wV Ax %4
tW Nat.lt_succ_self _
Nu IQ cd
MJ Ii mL
Vh Im V.str
SY J7 V.str
avl Ax(B2 %4)
avm B2(Ax(Ax %4))
avn Ax(Qg L6 L7 %4)
w_ B2(Ax(jO %4))
avp Ax(jO %4)
Nj AE aW
avr B2(Ax(B2 %4))
i9 %3
NK TL ai
zf Cv(Bn(acF bj))
avv C9(AB(Fx ai))
avw Bd(pv #8)(pv #10)
Qz aG q hn
QV YL f i
R8 jL f ps
avA Hf(.dT(qX k))
avB kM(aN(Prod.mk(+ i #1)(+ j #1)))
avC Hu(pv #0)(pv #1)
ι C9(AB(FO K))
nr yI s H I h
qd model pg wd
nk bN %2
jT bb %2
avI AB(FO K)
VD pV outer
xm λ z(e(RD z))
wL λ _3 False
avM alm K a xs.length
xA λ z(h1 z.symm)
avO λ z(e2(dJ z))
Χ Bx(FR(pv #6))
avQ Bx(FR(pv #3))
avR IW(E5(pv #1))
avS ED(E5(pv #2))
avT NA D2(.lst auu)
tT Ij(AB(pv #0))
avV C9(AB(pv #5))
vG Cy lB ai(pv #3)
avX TL(ED(pv #2))
avY afu(E5(pv #1))
avZ OR(AB(pv #4))
Nt Hf o
sU pV X.stack
t_ qA s1 H1 I1 q1
R3 qQ us
yc Ea dx(.own x)
awf h1.symm.trans e
vQ qe s1 H1 I1 q1
MK acs X
eD lf(Fy c)
sq aio d o kvs
Mg kl ws
awl λ _ h h.elim
nj Md(cW c)
r9 lf(Md c)
Zt λ h4 %4
ZM aeo(pv #3)
Of Aa hp
awr FR(pv #0)
QX Bh he
awt E5(pv #2)
RK Aa ht
mq AB(pv #2)
aww AB(pv #5)
RP y8 cn
awy G9(pv #4)
awz Bn(W4 g_ aO)
JK kM p
R0 bf p
awC tK t ht
awD λ s c(LI c)
YC Gj #0 #0
awF AB(y4 T.fC)
l7 su %4 vZ
dE YA CX gK
ZY ks.map kV
j7 EG V.int
sP Gk Value
pR WH V.int
ZS nK c shut
sr Ξ g2 g1
xh lA e n hb hx
xi VE s H Q I h
uE bS xs.length
awR Nb this.symm
awS B5 vs.length
awT vL kl(bf p)
zm kM(aN(Prod.mk i j))
awV mj iP(pv #2)
oT Bf e
jb dw st
Od Zk f
Κ B2(Ax %4)
axa bS z.length
Wt akR cb
lC nT b _ e
xg h_(B2 %4)
Z9 h_ %4
axf λ j(qC j)
axg λ v hv %4
xa TQ f o p i j
axi Ax(Ax %4)
axj Qg L6 L7 %4
Vj IJ hx
YY Fp hx
vR Fp hy
Yn YV hk
Xn ajV %4
x8 q x eh eg hg
Wx Xr e2
axr Gm %2
axs Pb %2
xj K9 %2
Rz Dn iO
Vc ahf H1
vn bs.map V.ref
YH ajB km
zg kG tr W g dk
V4 Ay n1
axA Dr(AB jD)
U' aiO f1
Vk Zk f1
X7 QW f1
Vi GP s3
YR Ay PZ
tN dz w0.ne
Kv pv #9
axI y4 T.fC
axJ Bn(acF bj)
yZ Dn(Bf e)
axL ET xs lo hi
axM Zw(ade T)
δ k3 b o hb e
vm Yk f(+ j #1)
Ο k.sy _2 h2
axQ JZ(mS i)
zD JZ(mS k)
axS EJ(Oq i)
ze om q.1 q.2
zL HZ(pv #10)
lp Kl k y
qM Kl k v
p4 aqH X.w
gq g(+ i #1)
Xy anV e
vH RD z
Sx aee E
QS oF n
UJ alY e
Wb aku j
ν qX k
X2 aeP T
VW Ho t
Vf EK z
QA bf r
aaP cW c
acp Oq i
yp pv #10
gM Tg h H
ZN wt hw
kZ Pg K a
kf Vv hu
oz Ay hB
tI oA lt
ayI jO %4
rC HP hy
dB OO ey
q_ Ob hx
l8 AE eh
jB Mb _ k
dG B7 ei
rG kW p q
ayB AB jD
qJ Aa hT
qL Dr af
ZQ Aa Ml
tE Fh SJ
i_ Ji s4
Zo BY hb
qZ Bh hb
lI HY s6
ZO Bh g2
axG Ie hh
mw Aa By
oK ahn wk
rp aky Em
oJ yl s9
VS hE _
WY kM l
XZ kM g
AN %1
AA %7
"#
local macro_rules
|`($f:ident $a*)=>if f.getId.isAtomic&&f.getId.toString.utf8ByteSize<4 then tabm tabt f.getId.toString a else Lean.Macro.throwUnsupported
local macro_rules
|`($f:ident)=>if f.getId.isAtomic&&f.getId.toString.utf8ByteSize<4 then tabm tabu f.getId.toString #[] else Lean.Macro.throwUnsupported
set_option maxHeartbeats 4000000
namespace HD
open PySem PySem.W PyProof.Rows
noncomputable section
noncomputable abbrev pw:Program:=PySem.Challenge.pw_quotefind_k21_shown_best
noncomputable abbrev pq:Program:=pw
theorem arq:pw=pq:=rfl
def z0:Str:=⟨⟨[60,109,111,100,117,108,101,62]⟩⟩
def z1:Str:=⟨⟨[95,95,109,97,105,110,95,95]⟩⟩
def XA:Str:=⟨⟨[47,99,108,97,105,109,47,99,117,116,46,112,121]⟩⟩
def afB:Str:=⟨⟨[98,101,115,116,95,101,110,100,105,110,103]⟩⟩
def afo:Str:=⟨⟨[98,101,115,116,95,116,104,114,111,117,103,104]⟩⟩
noncomputable abbrev y0:String:=PySem.W.SL.s658472552662922059x5
noncomputable abbrev avq:String:=PySem.W.SL.s5856160107412720595x4
noncomputable abbrev R(a:Addr):Value:= .ref a
noncomputable abbrev I(i:Int):Value:= .int i 0
noncomputable abbrev N:Value:= .none
noncomputable abbrev U(v:Value):Option Value:=some v
noncomputable abbrev B:=BT.node
noncomputable abbrev L:=BT.nil
noncomputable abbrev tu(l:List Value):Obj:=⟨.type "tuple",none, .seq ⟨l⟩ 0,⟨[]⟩⟩
noncomputable abbrev fi(l:List Value):Obj:=⟨.none,none, .fields ⟨l⟩,⟨[]⟩⟩
noncomputable abbrev cd(n:Str)(t:Nat)(l a f:Int)(r8:Addr)(b:Bool)(aos:Addr)(aqr auL aoh:Value)(t3:Int)(t4:Nat):Obj:=⟨.type avq,none, .fields ⟨[.str n t, .str n (t+1), .str XA (t+2),I l,I a,I 0,I 0,I f,R r8, .bool b,I 181,R aos,N,aqr,auL,aoh,I t3,I l, .str XA t4]⟩,⟨[]⟩⟩
noncomputable def tp(p:Program)(i:Nat):Stmt:=p.main.body.getD i (.Pass ⟨0,0,0,0⟩)
noncomputable def b0(_:Program)(P:Params):Obj:=PySem.W.boot_o_0 P
noncomputable def b1(_:Program)(P:Params):Obj:=PySem.W.boot_o_1 P
noncomputable def b2(_:Program)(P:Params):Obj:=PySem.W.boot_o_2 P
noncomputable def b3(_:Program)(P:Params):Obj:=PySem.W.boot_o_3 P
noncomputable def b4(_:Program)(P:Params):Obj:=PySem.W.boot_o_4 P
noncomputable def b5(_:Program)(P:Params):Obj:=PySem.W.boot_o_5 P
noncomputable def b6(_:Program)(P:Params):Obj:=PySem.W.boot_o_6 P
noncomputable def b7(_:Program)(P:Params):Obj:=PySem.W.boot_o_7 P
noncomputable def b8(_:Program)(P:Params):Obj:=PySem.W.boot_o_8 P
noncomputable def b9(_:Program)(P:Params):Obj:=PySem.W.boot_o_9 P
noncomputable def XB(_:Program)(P:Params):Obj:=PySem.W.boot_o_10 P
noncomputable def abP(p:Program)(P:Params):Obj:=tu []
noncomputable def ace(p:Program)(P:Params):Obj:=fi []
noncomputable def XE(p:Program)(P:Params):Obj:=cd z0 182 1 0 0 11 false 12 N N N 185 186
noncomputable def aaK(p:Program)(P:Params):Obj:=⟨(.type y0),none,.plain,⟨[U (R 13),U (R 3),U (R 3),none,U (.str z1 164),none,U (R 0)]⟩⟩
noncomputable def La(p:Program)(P:Params):List Obj:=[b0 p P,b1 p P,b2 p P,b3 p P,b4 p P,b5 p P,b6 p P,b7 p P,b8 p P,b9 p P,XB p P,abP p P,ace p P,XE p P,aaK p P]
noncomputable def Ta(p:Program)(P:Params):BT:=(B (b0 p P) (B (b1 p P) (B (b3 p P) (JE (b7 p P)) (JE (abP p P))) (B (b5 p P) (JE (b9 p P)) (JE (XE p P)))) (B (b2 p P) (B (b4 p P) (JE (b8 p P)) (JE (ace p P))) (B (b6 p P) (JE (XB p P)) (JE (aaK p P)))))
noncomputable def keep:List Nat:=[0,2,3,4,5,7,8,9,11,12,13,14,16,17,18,19,20,24,25,26,27,28,29,30,32,33,34,36,37,38,39,40,41,42,43,45,46,47,48,49,50,51,52,53,54,55,56,57,58,59,60,61,62,63,64,65,66]
noncomputable def loose:List Str:=[afB,afo]
noncomputable def env(p:Program):Env:={scope:=p.main.scope,locals:=mainNs,globals:=mainNs,cells:=[],code:=(R 13),frame:=some 14}
noncomputable def cE(p:Program):Code:= .body (ajy p) (env p)
noncomputable def qP:Pos:=⟨0,0,0,0⟩
noncomputable def pP:Pos:=⟨0,0,0,0⟩
noncomputable def bP:Pos:=⟨0,0,0,0⟩
noncomputable def fP:Pos:=⟨466,0,477,113⟩
noncomputable def an:Option Value:=(some (R 6))
noncomputable abbrev aoH:Nat:=66
noncomputable abbrev m0:Nat:=11
noncomputable abbrev Qb:Nat:=12
noncomputable abbrev aaF:Nat:=1
noncomputable abbrev MA:Nat:=3990
noncomputable abbrev MB:Nat:=2
noncomputable abbrev MD:Nat:=8704
noncomputable abbrev nA:Nat:=15
noncomputable abbrev auG:Nat:=187
noncomputable abbrev aiG:Nat:=187
end
end HD
namespace HD
open PySem PySem.W PyProof.Rows
noncomputable section
abbrev S0(w:World)(os:OsState):Shared:=⟨ME w.params,⟨[]⟩,boot_drawn,boot_toks,os⟩
abbrev Sa(p:Program)(w:World)(os:OsState):Shared:=⟨⟨⟨La p w.params⟩,{}⟩,⟨[]⟩,{},auG,os⟩
abbrev Sb(p:Program)(w:World)(os:OsState):SharedT:=⟨Ta p w.params,nA,{},⟨[]⟩,{},aiG,os⟩
abbrev q(p:Program):Program:=view p keep
abbrev Xt(p:Program)(R:WRecords):Shared→Bool:=fun s=>xlAt (q p) [] s&&recOk R s
theorem arf (w) (os):topGo treeTable pq w m0 an Qb (S0 w os) (topStub pq)=some (Sa pq w os,⟨denote treeTable (cE pq),cE pq,pP,[ZI qP]⟩):=by
 rewrite[Fast.te15667345088766844465,Fast.te14364793385576792824,Fast.te11892475500146522536];kernel_rfl
theorem alD (w) (os):segRun treeTable pq w m0 an 1 aaF (Sa pq w os) (blockOf (ajy pq) (env pq) (cE pq) pP [ZI qP])=some (.next,(W_ w).abs,cE pq,bP):=by
 rewrite[Fast.te14374325043358763698,Fast.te14364793385576792824];kernel_rfl
def Rm(w:World)(os:OsState):=Fast.tw10110043849684766642 Fast.tw14364793385576792824 pq w m0 an 1 MA (W_ w) (ahL bP)
def Sm(w:World)(os:OsState):SharedT:=match Rm w os with|some (_,s,_,_)=>s|none=>W_ w
theorem adm (w) (os):segRunT treeTable pq w m0 an 1 MA (W_ w) (ahL bP)=some (.next,Sm w os,cE pq,fP):=by
 rewrite[Fast.te10110043849684766642,Fast.te14364793385576792824];kernel_rfl
def Rf(w:World)(os:OsState):=Fast.tw14082659384304107361 Fast.tw14364793385576792824 pq w m0 an MB (Sm w os).abs ⟨doneF .next,cE pq,fP,[ZI qP]⟩
def Sf(w:World)(os:OsState):Shared:=match Rf w os with|some s=>s|none=>S0 w os
theorem aip (w) (os):topRun treeTable pq w m0 an MB (Sm w os).abs ⟨doneF .next,cE pq,fP,[ZI qP]⟩=some (CI w):=by
 rewrite[Fast.te14082659384304107361,Fast.te14364793385576792824];kernel_rfl
theorem aob(w:World):((ME w.params).isNs mainGlobals&&(⟨[]⟩:Array GenState).size==0,(ME w.params).objs.size,(ME w.params).nsMap mainGlobals "__annotations__")=(true,m0,an):=by
 rewrite[Fast.te8920871248978507458];kernel_rfl
theorem ahu:∀w:World,(Δ pq w MD).map (fun s=>(s.heap,s.gens,s.drawn,s.toks))=some (boot_heap w.params,⟨[]⟩,boot_drawn,boot_toks):=
 boot_open ja (by kernel_rfl) (fun s=>by kernel_rfl)
theorem awX (w) (os):topRun treeTable pq w m0 an (Qb+(aaF+(MA+MB))) (S0 w os) (topStub pq)=some (CI w):=by
 refine go_top (arf w os) (piece_block (alD w os) ?_);have h:=piece_app (rest:=[]) (segRun_of (adm w os)) (piece_nil (env:=env pq) (aip w os));rw[List.append_nil]at h;exact h
theorem auc (w) (os):
 (staticsOk (hU pq.main.body) (ME w.params) (CI w).heap&&namesBound pq (CI w).heap&&gensDone (CI w)&&laidKept (ME w.params) (CI w).heap)=true:=by
 rewrite[Fast.te5923862056798008813];kernel_rfl
theorem ahF (w) (os):
 seen ((recsOf Dh).map (·.name)) (ownsOf Dh) [] {Sf w os with gens:=#[]}=expectedOf (q pq):=by
 rewrite[Fast.te5160383126252970620,Fast.te3399658132070893891,Fast.te5991557255702980513];kernel_rfl
theorem agB (w) (os):
 (CI w).heap.bltView=bltViewBooted:=by
 kernel_rfl
theorem apy (w) (os):
 ((CI w).heap.keysOk (U8 loose) ((recsOf Dh).map (·.name)) ((litsOf Dh).map (·.1)) ((clssOf Dh (U8 loose)).map (·.name))&&(CI w).heap.accountedOkI (hU pq.main.body)&&(CI w).heap.isNs mainGlobals&&(CI w).heap.isNs builtinsNs&&tablesOk Dh (CI w).heap&&Xt pq [] (CI w)&&(if true then(CI w).gens.size==0 else !leftWithCleanup (CI w).gens))=true:=by
 rewrite[Fast.te10880121769531294198,Fast.te821141287760084731,Fast.te3399658132070893891,Fast.te7409074990110511671,Fast.te13664370479719496447,Fast.te14722251495701143533,Fast.te5923862056798008813,Fast.te10994771534591457954];kernel_rfl
theorem arx (w) (os):
 tabsOk Dh (CI w)=true:=by
 rewrite[Fast.te479339242167458305];kernel_rfl
theorem ajc (w) (os):
 pinSeenD Dh (drecsOf Dh) (CI w)=pinGoodD (drecsOf Dh):=by
 rewrite[Fast.te16090120013241838585,Fast.te3247288618530077131];kernel_rfl
theorem aeZ (w) (os):
 plainSeenE Dh (U8 loose) (CI w)=plainGoodE Dh (U8 loose):=by
 rewrite[Fast.te2386780881361962483,Fast.te821141287760084731];kernel_rfl
theorem aiS (w) (os):
 plainSeenD Dh loose (CI w)=plainGoodD Dh loose:=by
 rewrite[Fast.te11698064438423848299];kernel_rfl
theorem amu (w) (os):
 wideSeen Dh (CI w)=wideGood (q pq):=by
 rewrite[Fast.te7317090234206586261];kernel_rfl
theorem afY (w) (os):
 clsSeenW Dh loose (CI w)=clsGoodW Dh loose:=by
 rewrite[Fast.te7369524293546568484];kernel_rfl
theorem lx{p q:Program}{lo}{Xt}{α:Type}{Yf:Shared→α}{a:α}{w}{N M n:Nat}{h:Heap}{gs:Array GenState}{dr}{k:Nat}{an:Option Value}{g:OsState→Shared}
  (o:(Δ p w N).map (fun s=>(s.heap,s.gens,s.drawn,s.toks))=some (h,gs,dr,k)) (z:(h.isNs mainGlobals&&gs.size==0,h.objs.size,h.nsMap mainGlobals "__annotations__")=(true,n,an))
  (r:∀os,topRun treeTable p w n an M ⟨h,gs,dr,k,os⟩ (topStub p)=some (g os)) (le:M≤N) (x1:∀os,(staticsOk sV h (g os).heap&&namesBound p (g os).heap&&gensDone (g os)&&laidKept h (g os).heap)=true)
  (x2:∀os,openSeen q lo sV Xt true (g os)=openGood q lo) (x3:∀os,Yf (g os)=a):(openEnds treeTable p w N).map (fun s=>(openSeen q lo sV Xt true s,Yf s))=some (openGood q lo,a):=by
 obtain⟨⟨h,gs,dr,k,os⟩,e1,e2⟩:=YK o;cases e2;obtain⟨y1,y2⟩:=Hi z;obtain⟨y2,y3⟩:=Hi y2;have t:=topRun_mono (N-M) _ _ _ _ (r os);rw[Nat.add_sub_cancel' le]at t;have f:topFrom treeTable p w N ⟨h,gs,dr,k,os⟩=some (g os):=by
  unfold topFrom;dsimp only;rw[y1,y2,y3,t];show(match staticsOk _ h (g os).heap&&namesBound p (g os).heap&&gensDone (g os)&&laidKept h (g os).heap with|true=>_|false=>_)=_;rw[x1 os]
 unfold openEnds;rw[e1,Option.bind_some,f];exact Eu some (Cd (x2 os) (x3 os))
theorem left (p) (e:p=pq) (H:Hook) (hk:∀w os,H.obs (CI w)=H.val w):LeftO p (q p) loose (Xt p []) H.obs H.val MD:=by
 subst e;intro w;exact lx (g:=Sf w) (ahu w) (aob w) (awX w) (AN) (auc w) (fun os=>IL (ahF w os) (IL (agB w os) (IL (apy w os) (IL (arx w os) (IL (ajc w os) (IL (aeZ w os) (IL (aiS w os) (IL (amu w os) (afY w os))))))))) (hk w)
def d:DefRec:=match tp pw aoH with
 | .FunctionDef n a b _ _ _ sc _ _ ps=>⟨n,a,b,sc,ps⟩
 | _=>⟨Str.empty,default,[],default,default⟩
end
end HD
namespace HD
open PySem
def pk:Nat→List Nat→List Obj→List (Gk Obj)
 |_,[],_=>[]
 |_,_::as,[]=>none::as.map fun _=>none
 |i,a::as,x::xs=>match Nat.beq a i with
  |true=>some x::pk (i+1) as xs
  |false=>pk (i+1) (a::as) xs
def up:Nat→List Nat→Bool
 |_,[]=>true
 |i,a::as=>Nat.ble i a&&up (a+1) as
theorem Gs:∀{as:List Nat}{i:Nat},up i as=true→∀a∈as,i≤a
 |[],_,_,_,h=>by cases h
 |a::as,i,h,b,hb=>by
  obtain⟨h1,h2⟩:=zN h;have h1:=aoW h1;rcases List.mem_cons.mp hb with e|hb
  ·lia
  ·have:=Gs h2 b hb;lia
theorem Gu:∀(xs:List Obj)(i:Nat)(as:List Nat),up i as=true→pk i as xs=as.map fun a=>xs[a-i]?
 |xs,i,[],_=>by unfold pk;rfl
 |[],i,a::as,_=>by unfold pk;simp
 |x::xs,i,a::as,h=>by
  obtain⟨h1,h2⟩:=zN h;have h1:=aoW h1;unfold pk;split
  ·rename_i e
   have e:=Nat.eq_of_beq_eq_true e;subst e;have u:=Gs h2;rw[Gu xs (a+1) as h2,List.map_cons,Nat.sub_self];refine congrArg (some x::·) (List.map_congr_left fun b hb=>?_);have:=u b hb;rw[show b-a=(b-(a+1))+1 by lia];rfl
  ·rename_i e
   have e:=Nat.ne_of_beq_eq_false e;have h3:up (i+1) (a::as)=true:=Bool.and_eq_true_iff.mpr ⟨Nat.ble_eq_true_of_le A3,h2⟩;have u:=Gs h3;rw[Gu xs (i+1) (a::as) h3];refine List.map_congr_left fun b hb=>?_
   have:=u b hb;rw[show b-i=(b-(i+1))+1 by lia];rfl
def fz:Option Obj→Option Obj
 |some ⟨_,_,.freed,_⟩=>none
 |o=>o
theorem awa{h:Heap}(u:up 0 as=true)(e:(pk 0 as h.objs.toList).map fz=r):as.map h.get?=r:=by
 rw[←e,Gu _ _ _ u,List.map_map];refine List.map_congr_left fun a _=>?_
 show Heap.get? h a=fz (h.objs.toList[a-0]?);rw[Nat.sub_zero,Array.getElem?_toList];rfl
end HD
namespace HD
theorem ws:PySem.W.OpenLaw.wellSaid PySem.Challenge.rw_quotefind_k21_shown_best=true:=by
 rewrite[PySem.W.Fast.te9446332074065402090];kernel_rfl
end HD
theorem abj{G:Prop}(h:∀P:Prop,(G→P)→P):G:=h G id
set_option hygiene false in
local macro_rules|`(tactic|rintro $p*)=>do
 let a:=p.raw
 let q:=a.back!
 if q.isOfKind `Lean.Parser.Tactic.rintroPat.one&&q[0].isOfKind `Lean.Parser.Tactic.rcasesPat.tuple then
  let x:Lean.TSyntax `rcasesPat:=⟨q[0]⟩
  let t←`(tactic|(intro amF;refine abj fun _ Qk=>?_;rcases amF with $x:rcasesPat<;>(refine Qk ?_;clear Qk)))
  if a.size=1 then pure t else
   let b:Lean.TSyntaxArray `rintroPat:=⟨a.pop.toList.map (⟨·⟩)⟩
   `(tactic|(rintro $b*;$t))
 else Lean.Macro.throwUnsupported
set_option hygiene false in
local macro_rules|`(tactic|obtain $x:rcasesPat:=$e)=>if x.raw.isOfKind `Lean.Parser.Tactic.rcasesPat.tuple then `(tactic|(refine abj fun _ Qk=>?_;rcases $e:term with $x:rcasesPat<;>(refine Qk ?_;clear Qk)))else Lean.Macro.throwUnsupported
namespace L2
open PySem PySem.Spec PyProof.Rows
abbrev Key:=Sum Int Str
def xo:Key→Value→Bool
 | .inl k,v=>Value.isInt k v
 | .inr x,v=>Value.isStrOf x v
def alb(w:World):Key→Int
 | .inl k=>hashInt k
 | .inr x=>hashStr w x
theorem dD:∀{k:Key}{v:Value},xo k v=true→(∃i t,k=Sum.inl i∧v=Value.int i t)∨(∃x t,k=Sum.inr x∧v=Value.str x t)
 | .inl i,v,h=>by
  obtain⟨t,e⟩:=Value.isInt_shape (k:=i) (v:=v) h;exact .inl ⟨i,t,rfl,e⟩
 | .inr x,v,h=>by
  obtain⟨t,e⟩:=Value.isStrOf_shape (x:=x) (v:=v) h;exact .inr ⟨x,t,rfl,e⟩
theorem atk (i) (t):xo (.inl i) (.int i t)=true:=by simp[xo,Value.isInt]
theorem awp (x) (t):xo (.inr x) (.str x t)=true:=by simp[xo,Value.isStrOf]
theorem ahp(a b:_):decide ((Sum.inl a:Key)=Sum.inl b)=(a==b):=by
 by_cases e:a=b
 ·subst e;simp
 ·have h:¬(Sum.inl a:Key)=Sum.inl b:=fun q=>e (Sum.inl.inj q)
  rw[EI h];exact(ο e).symm
theorem aqg(a b:_):decide ((Sum.inr a:Key)=Sum.inr b)=decide (a=b):=by
 by_cases e:a=b
 ·subst e;simp
 ·have h:¬(Sum.inr a:Key)=Sum.inr b:=fun q=>e (Sum.inr.inj q)
  rw[EI h,EI e]
theorem alH (a) (b):decide ((Sum.inl a:Key)=Sum.inr b)=false:=EI (fun q=>nomatch q)
theorem aqh (a) (b):decide ((Sum.inr a:Key)=Sum.inl b)=false:=EI (fun q=>nomatch q)
def acg(prog:Program)(w:World):PySem.KeyKind prog w Key where
 is:=xo
 hash:=alb w
 inj:=fun v a b ha hb=>by
  rcases dD ha with⟨i,t,rfl,rfl⟩|⟨x,t,rfl,rfl⟩
  ·rcases dD hb with⟨j,u,rfl,e⟩|⟨y,u,rfl,e⟩
   ·injection e with e1 _;rw[e1]
   ·exact nomatch e
  ·rcases dD hb with⟨j,u,rfl,e⟩|⟨y,u,rfl,e⟩
   ·exact nomatch e
   ·injection e with e1 _;rw[e1]
 byValue:=fun k v h=>by
  rcases dD h with⟨i,t,rfl,rfl⟩|⟨x,t,rfl,rfl⟩<;>rfl
 pyHash:=fun hv h=>by
  rcases dD hv with⟨i,t,rfl,rfl⟩|⟨x,t,rfl,rfl⟩
  ·exact wpAny_pyHash_int h
  ·exact wpAny_pyHash_str h
 eqBool:=fun hu hv h=>by
  rcases dD hu with⟨i,t,rfl,rfl⟩|⟨x,t,rfl,rfl⟩
  ·rcases dD hv with⟨j,u,rfl,rfl⟩|⟨y,u,rfl,rfl⟩
   ·rw[ahp]at h;exact wpAny_eqBool_int h
   ·rw[alH]at h;exact SeqAt.EqAt.int_str i t y u _ _ _ _ h
  ·rcases dD hv with⟨j,u,rfl,rfl⟩|⟨y,u,rfl,rfl⟩
   ·rw[aqh]at h;exact SeqAt.EqAt.str_int x t j u _ _ _ _ h
   ·rw[aqg]at h;exact wpAny_eqBool_str h
 «strs»:=fun k x t v h=>by
  rcases dD h with⟨i,u,rfl,e⟩|⟨y,u,rfl,e⟩
  ·exact nomatch e
  ·injection e with e1 _;subst e1;cases v<;>rfl
theorem arp (prog) (w) (i) (t):(Oe prog).is (.inl i) (.int i t)=true:=atk i t
theorem aiu (prog) (w) (x) (t):(Oe prog).is (.inr x) (.str x t)=true:=awp x t
inductive V where
 |de|bl (b:Bool)|int (i:Int)|str (x:Str)|EC (b:Array UInt8)|Lz (b:UInt64)|ref (a:Addr)|ty (n:String)
 deriving DecidableEq
def RelV:V→Value→Prop
 | .de,u=>u=Value.none
 | .bl b,u=>u=Value.bool b
 | .int i,u=>∃t,u=Value.int i t
 | .str x,u=>∃t,u=Value.str x t
 | .EC b,u=>∃t,u=Value.bytes b t
 | .Lz b,u=>∃t,u=Value.float b t
 | .ref a,u=>u=Value.ref a
 | .ty n,u=>u=Value.type n
abbrev Vals:List V→List Value→Prop:=Paired RelV
theorem Vals.length(r:Vals xs us):xs.length=us.length:=Oa r
theorem Vals.get:∀{xs:List V}{us:List Value}{i:Nat}{x:V},Vals xs us→xs[i]?=some x→∃u,us[i]?=some u∧RelV x u
 | _,_,_,_, .nil,e=>by simp at e
 | _,_,0,_, .cons r _,e=>by simp at e;subst e;exact⟨_,rfl,r⟩
 | _,_,i+1,x, .cons _ t,e=>by
  obtain⟨u,h1,h2⟩:=Vals.get (i:=i) (x:=x) t (by simpa using e);exact⟨u,by simpa using h1,h2⟩
theorem Vals.set(r:RelV x u):∀{xs:List V}{us:List Value}(i:Nat),Vals xs us→Vals (xs.set i x) (us.set i u)
 | _,_,_, .nil=> .nil
 | _,_,0, .cons _ t=> .cons r t
 | _,_,i+1, .cons q t=> .cons q (Vals.set r i t)
theorem Vals.append:∀{xs ys:List V}{us ws:List Value},Vals xs us→Vals ys ws→Vals (xs++ys) (us++ws)
 | _,_,_,_, .nil,s=>s
 | _,_,_,_, .cons r t,s=> .cons r (oh t s)
theorem Vals.take:∀{xs:List V}{us:List Value}(n:Nat),Vals xs us→Vals (xs.take n) (us.take n)
 | _,_,0,_=> .nil
 | _,_,_+1, .nil=> .nil
 | _,_,n+1, .cons r t=> .cons r (Vals.take n t)
theorem Vals.drop:∀{xs:List V}{us:List Value}(n:Nat),Vals xs us→Vals (xs.drop n) (us.drop n)
 | _,_,0,r=>r
 | _,_,_+1, .nil=> .nil
 | _,_,n+1, .cons _ t=>Vals.drop n t
def lz:Option V→Option Value→Prop
 |some v,some u=>RelV v u
 |none,none=>True
 | _,_=>False
def KV{κ:Type}:List (κ×V)→List (κ×Value)→Prop:=Paired fun(p:κ×V)(q:κ×Value)=>p.1=q.1∧RelV p.2 q.2
def kV:Key→V
 | .inl i=> .int i
 | .inr x=> .str x
inductive HO where
 |lst (xs:List V)
 |tup (xs:List V)
 |dK (kvs:List (Key×V))|dT (kvs:List (List Key×V))
 |set (S:Int→Bool) (n:Nat)
 |ins (C dx:Addr) (fs:List (Str×V))
 |own (x:Addr)
 |xd (fs:List (Str×V))
 |met (f x:Addr)
 |Tf (lo hi:Int)
 |t9 (o:Obj) (u:HO)
 |JI (ps:Array Value)
 |ext (φ:Heap→Prop)
abbrev Hp:=Addr→Option HO
def upd(H:Hp)(a:Addr)(o:HO):Hp:=fun b=>if b=a then some o else H b
theorem ae{a}:upd H a o a=some o:=by unfold upd;rw[if_pos rfl]
theorem aq{a b}(h:b≠a):upd H a o b=H b:=by unfold upd;rw[A6 h]
theorem gL{a}:upd Nt a u=upd H a u:=by
 funext b;unfold upd;split<;>rfl
theorem jC{H:Hp}{a b}(h:H a=some o)(h':H b=some u)(d:o≠u):a≠b:=by
 intro e;subst e;rw[h]at h';exact d (Aw h')
theorem aG{H:Hp}{a b}(h:H a=some o)(h':H b=none):a≠b:=by
 intro e;subst e;rw[h]at h';cases h'
section
variable(P:Program)(w:World)
def dA(H:Hp)(h:Heap)(a:Addr):HO→Prop
 | .lst xs=>xs.length≤sizeLine∧∃(its:List Value)(n:Nat),Vals xs its∧h.get? a=some {cls:= .type "list",data:= .seq its.toArray n}
 | .tup xs=>xs.length≤sizeLine∧∃its:List Value,Vals xs its∧IsTup h a its.toArray
 | .dK kvs=>kvs.length≤sizeLine∧(a==sysModules)=false∧∃vs,KV kvs vs∧h.DictOf KL a vs
 | .dT kvs=>kvs.length≤sizeLine∧(a==sysModules)=false∧∃xs:List (List Key×Addr×Value),
   Paired (fun(p:List Key×V)(q:List Key×Addr×Value)=>p.1=q.1∧H q.2.1=some (.tup (p.1.map kV))∧RelV p.2 q.2.2) kvs xs∧
   ∃o es ep,h.get? a=some o∧o.ExactDict∧o.data= .dict es ep∧es.toList=xs.map (entryOfKey Yu)∧(MI (·.1)).Nodup
 | .set S n=>h.SetOf (intKind P w) a S n
 | .ins C dx fs=>H dx=some (.own a)∧fs.length≤1000∧dx≠a∧h.get? a=some (pT C)∧
   ∃mA,h.Ns1 dx mA∧(∀f,pZ (mA f))∧PySem.Within mA (Ii (·.1))
 | .own _=>∃o,h.get? a=some o
 | .xd fs=>∃mA,h.Ns1 a mA∧∀f,pZ (mA f)
 | .Tf lo hi=>∃t u v,h.get? a=some {cls:= .type "range",data:= .fields #[.int lo t, .int hi u, .int 1 v]}
 | .t9 o u=>h.get? a=some o∧dA H h a u
 | .JI ps=>h.get? a=some {cls:= .none,data:= .fields ps}
 | .met f x=>h.get? a=some (jA (.ref x))
 | .ext φ=>φ h∧(∃o,h.get? a=some o)∧∀h1 h2:Heap,φ h1→(∀o,h1.get? a=some o→h2.get? a=some o)→φ h2
def mH(H:Hp)(h:Heap):Prop:=∀a o,H a=some o→dA P w H h a o
end
section
variable{P:Program}{w:World}{H H':Hp}{h h':Heap}{a:Addr}{o:HO}
theorem dA.lt(x:dA P w H h a o):a<h.objs.size:=by
 cases o with
 |lst xs=>obtain⟨_,_,_,_,e⟩:=x;exact Bf e
 |tup xs=>obtain⟨_,_,_,p⟩:=x;exact p.lt
 |dK kvs=>obtain⟨_,_,_,_,o,_,_,e,_⟩:=x;exact Bf e
 |dT kvs=>obtain⟨_,_,_,_,o,_,_,e,_⟩:=x;exact Bf e
 |set S n=>obtain⟨o,_,_,_,e,_⟩:=x;exact Bf e
 |ins C dx fs=>obtain⟨_,_,_,e,_⟩:=x;exact Bf e
 |own y=>obtain⟨_,e⟩:=x;exact Bf e
 |xd fs=>obtain⟨_,⟨_,_,_,e,_⟩,_⟩:=x;exact Bf e
 |Tf lo hi=>obtain⟨_,_,_,e⟩:=x;exact Bf e
 |t9 ob u=>obtain⟨e,_⟩:=x;exact Bf e
 |JI ps=>exact Bf (show h.get? a=some _ from x)
 |met f y=>exact Bf (show h.get? a=some _ from x)
 |ext φ=>obtain⟨_,⟨_,e⟩,_⟩:=x;exact Bf e
theorem Paired.MP{α β:Type}{F G}:∀{Ql:List α}{Qm:List β},Paired F Ql Qm→(∀a b,F a b→G a b)→Paired G Ql Qm
 | _,_, .nil,_=> .nil
 | _,_, .cons r t,f=> .cons (f _ _ r) (Paired.MP t f)
theorem dA.xY(x:dA P w H h a o)(k:∀b u,(b=a∨H b=some (.own a))→h.get? b=some u→h'.get? b=some u)
  (ho:∀b,H b=some (.own a)→H' b=some (.own a)) (ht:∀b xs,H b=some (.tup xs)→H' b=some (.tup xs)):dA P w H' h' a o:=by
 induction o with
 |lst xs=>obtain⟨z,its,n,r,e⟩:=x;exact⟨z,its,n,r,k _ _ (.inl rfl) e⟩
 |tup xs=>obtain⟨z,its,r,ob,e,c⟩:=x;exact⟨z,its,r,ob,k _ _ (.inl rfl) e,c⟩
 |dK kvs=>obtain⟨z,y,vs,r,ob,es,ep,e,c⟩:=x;exact⟨z,y,vs,r,ob,es,ep,k _ _ (.inl rfl) e,c⟩
 |dT kvs=>
  obtain⟨z,y,xs,r,ob,es,ep,e,c⟩:=x;exact⟨z,y,xs,Paired.MP r fun p q z=>⟨z.1,ht _ _ z.2.1,z.2.2⟩,ob,es,ep,k _ _ (.inl rfl) e,c⟩
 |set S n=>obtain⟨ob,es,ep,t,e,c⟩:=x;exact⟨ob,es,ep,t,k _ _ (.inl rfl) e,c⟩
 |ins C dx fs=>
  obtain⟨d,z,ne,e,mA,⟨od,es,ep,e2,c⟩,r⟩:=x;exact⟨ho _ d,z,ne,k _ _ (.inl rfl) e,mA,⟨od,es,ep,k _ _ (.inr d) e2,c⟩,r⟩
 |own y=>obtain⟨ob,e⟩:=x;exact⟨ob,k _ _ (.inl rfl) e⟩
 |xd fs=>obtain⟨mA,⟨od,es,ep,e,c⟩,r⟩:=x;exact⟨mA,⟨od,es,ep,k _ _ (.inl rfl) e,c⟩,r⟩
 |Tf lo hi=>obtain⟨t,u,v,e⟩:=x;exact⟨t,u,v,k _ _ (.inl rfl) e⟩
 |t9 ob u ih=>obtain⟨e,q⟩:=x;exact⟨k _ _ (.inl rfl) e,ih q⟩
 |JI ps=>
  have e:h.get? a=some {cls:= .none,data:= .fields ps}:=x;show h'.get? a=some {cls:= .none,data:= .fields ps};exact k a _ (.inl rfl) e
 |met f y=>
  have e:h.get? a=some (jA (.ref y)):=x;show h'.get? a=some (jA (.ref y));exact k a _ (.inl rfl) e
 |ext φ=>obtain⟨p,⟨o,e⟩,st⟩:=x;exact⟨st _ _ p fun o q=>k _ _ (.inl rfl) q,⟨o,k _ _ (.inl rfl) e⟩,st⟩
theorem mH.lt(x:mH P w H h)(e:H a=some o):a<h.objs.size:=(x a o e).lt
theorem mH.fresh(x:mH P w H h)(e:h.objs.size≤a):H a=none:=by
 cases q:H a with
 |none=>rfl
 |some u=>exact IS (JM (x.lt q) e)
theorem mH.kept(x:mH P w H h)(k:∀b u,h.get? b=some u→h'.get? b=some u):mH P w H h':=fun a o e=>
 (x a o e).xY (fun b u _ q=>k b u q) (fun _ q=>q) fun _ _ q=>q
theorem mH.laid(x:mH P w H h)(k:∀b u,h.get? b=some u→h'.get? b=some u)(hp:h.objs.size≤a)(new:dA P w Nt h' a o):mH P w Nt h':=fun b u e=>by
 have hn:=x.fresh hp;by_cases hb:b=a
 ·subst hb;rw[ae]at e;cases e;exact new
 ·rw[aq hb]at e;exact(x b u e).xY (fun c v _ q=>k c v q) (fun c q=>by rw[aq Qz];exact q) fun c xs q=>by rw[aq Qz];exact q
end
def Rd(H:Hp)(a:Addr)(u:HO):Prop:=H a=some u∨∃o,H a=some (.t9 o u)
theorem Rd.of{a}(h:H a=some u):Rd H a u:= .inl h
theorem Rd.ok{a}(r:Rd H a u)(x:mH P w H h):dA P w H h a u:=by
 rcases r with r|⟨o,r⟩
 ·exact x a u r
 ·obtain⟨_,q⟩:=x a _ r;exact q
def Qn:Option HO→Prop
 |some (.lst _)=>True
 |some (.dK _)=>True
 |some (.dT _)=>True
 |some (.set _ _)=>True
 |some (.ins _ _ _)=>True
 |some (.ext _)=>True
 | _=>False
section
variable{P:Program}{w:World}{H:Hp}{h h':Heap}{x e:Addr}{o':HO}
theorem mH.write(ok:mH P w H h)(mu:Qn (H x))(he:e=x∨H e=some (.own x))(k:∀b u,b≠e→h.get? b=some u→h'.get? b=some u)(Pc:∃u,h'.get? e=some u)
  (new:dA P w (Hh o') h' x o'):mH P w (Hh o') h':=fun b u q=>by
 have Qo:∀c y,H c=some (.own y)→c≠x:=fun c y r z=>by subst z;rw[r]at mu;exact mu
 have agP:∀c xs,H c=some (.tup xs)→c≠x:=fun c xs r z=>by subst z;rw[r]at mu;exact mu
 by_cases hb:b=x
 ·subst hb;rw[ae]at q;cases q;exact new
 ·rw[aq hb]at q;by_cases MQ:b=e
  ·have q':H b=some (.own x):=by
    rcases he with z|z
    ·exact BO (MQ.trans z) hb
    ·rw[MQ];exact z
   rw[q]at q';cases q';obtain⟨v,hv⟩:=Pc;exact⟨v,by rw[MQ];exact hv⟩
  ·refine(ok b u q).xY (fun c v hc r=>k c v ?_ r) (fun c r=>by rw[aq (Qo c b r)];exact r) fun c xs r=>by rw[aq (agP c xs r)];exact r
   rcases hc with rfl|hc
   ·exact MQ
   ·rintro rfl;rcases he with z|z
    ·exact Qo c b hc z
    ·rw[hc]at z;cases z;exact hb rfl
end
structure Un(fs ex:List Addr)(H H':Hp)(h h':Heap):Prop where
 keep:∀b o,h.get? b=some o→H b=none→b∉fs→b∉ex→h'.get? b=some o
 slot:∀b o,h.get? b=some o→H b=none→b∈fs→b∉ex→∃sl,h'.get? b=some {o with slots:=sl}
 free:∀b o,h.get? b=some o→H b=none→b∉ex→H' b=none
 there:∀b o,h.get? b=some o→b∉ex→∃o',h'.get? b=some o'
 cT:∀b xs,H b=some (.tup xs)→H' b=some (.tup xs)
 pY:∀b o u,H b=some (.t9 o u)→H' b=some (.t9 o u)
 tH:∀b ps,H b=some (.JI ps)→∃more,H' b=some (.JI (ps++more))
section
variable{fs anS ex ex':List Addr}{H H1 H2:Hp}{h h1 h2 h':Heap}{a x e:Addr}{o:HO}
theorem Un.any(u:Un fs ex H H1 h h1){b}(q:h.get? b=some ob)(n:H b=none)(hx:b∉ex):∃sl,h1.get? b=some {ob with slots:=sl}:=by
 by_cases hb:b∈fs
 ·exact u.slot b ob q n hb hx
 ·exact⟨ob.slots,u.keep b ob q n hb hx⟩
theorem Un.kept(k:∀b u,h.get? b=some u→h'.get? b=some u):Un fs ex H H h h':=
 ⟨fun b ob q _ _ _=>k b ob q,fun b ob q _ _ _=>⟨ob.slots,k b ob q⟩,fun _ _ _ n _=>n,fun b ob q _=>⟨ob,k b ob q⟩,fun _ _ q=>q,fun _ _ _ q=>q,fun _ ps q=>⟨#[],by rw[q];simp⟩⟩
theorem Un.refl:Un fs ex H H h h:=Un.kept fun _ _ q=>q
theorem Un.laid(k:∀b u,h.get? b=some u→h'.get? b=some u)(hp:h.objs.size≤a)(hn:H a=none):Un fs ex H Nt h h' where
 keep:=fun b u q _ _ _=>k b u q
 slot:=fun b u q _ _ _=>⟨u.slots,k b u q⟩
 free:=fun b u q n _=>by rw[aq (Dn (JM (Bf q) hp))];exact n
 there:=fun b u q _=>⟨u,k b u q⟩
 cT:=fun b xs q=>by rw[aq Qz];exact q
 pY:=fun b u xs q=>by rw[aq Qz];exact q
 tH:=fun b ps q=>⟨#[],by rw[aq Qz,q];simp⟩
theorem Un.write(mu:Qn (H x))(he:e=x∨H e=some (.own x))(k:∀b u,b≠e→h.get? b=some u→h'.get? b=some u)(Pc:∃u,h'.get? e=some u):Un fs ex H (Hh o) h h':=by
 have hx:∀b,H b=none→b≠x:=fun b n z=>by subst z;rw[n]at mu;exact mu
 have hb:∀b,H b=none→b≠e:=fun b n z=>by
  subst z;rcases he with r|r
  ·exact hx b n r
  ·rw[n]at r;cases r
 have hm:∀b u,H b=some u→¬Qn (some u)→b≠x:=fun b u q nm z=>by subst z;rw[q]at mu;exact nm mu
 refine⟨fun b u q n _ _=>k b u (hb b n) q,fun b u q n _ _=>⟨u.slots,k b u (hb b n) q⟩,fun b u q n _=>by rw[aq (hx b n)];exact n,fun b u q _=>?_,
  fun b xs q=>by rw[aq (hm b _ q fun z=>z)];exact q,fun b u xs q=>by rw[aq (hm b _ q fun z=>z)];exact q,fun b ps q=>⟨#[],by rw[aq (hm b _ q fun z=>z),q];simp⟩⟩
 by_cases MQ:b=e
 ·subst MQ;exact Pc
 ·exact⟨u,k b u MQ q⟩
end
def Tg(h:Heap)(H:Hp):List Addr:=(B5 h.objs.size).filter fun a=>(H a).isSome
def xZ(h:Heap)(H:Hp):Heap:=PySem.W.hideAll h gM
theorem atN (h) (H):(xZ h H).objs.size=h.objs.size:=PySem.W.hideAll_size _ _
theorem ahQ{h}{b}(e:h.get? b=some o)(n:H b=none):(xZ h H).get? b=some o:=
 PySem.W.hideAll_get _ e fun hm=>by
  have q:(H b).isSome=true:=(N_ hm).2;rw[n]at q;simp at q
theorem avL{b}(e:(xZ h H).get? b=some o):h.get? b=some o∧H b=none:=by
 have e':h.get? b=some o:=PySem.W.of_hideAll gM e;refine⟨e',?_⟩;cases q:H b with
 |none=>rfl
 |some x=>
  have hm:b∈Tg h H:=pJ ⟨List.mem_range.mpr (Bf e'),by simp[q]⟩;have z:(xZ h H).get? b=none:=PySem.W.hideAll_none gM hm;rw[z]at e;cases e
def aum(g h:Heap)(L:Addr):List (Addr×Obj):=(B5 h.objs.size).filterMap fun a=>if a=L∨(g.get? a).isSome=true then none else(h.get? a).map fun o=>(a,o)
def rest(g h:Heap)(L d:Addr):List (Addr×Obj):=(aum g h L).filter fun p=>decide (p.1≠d)
structure Mod(K:PySem.W.Frag)(mg:Str→Option Value)(base:Heap):Prop where
 Pd:K.In base
 glob:base.Ns mainGlobals mg
 blt:∃mb,base.Ns builtinsNs mb∧∀x:Str,x≠"__name__"→mb x=bootBuiltins x
 nolimit:base.NoLimit
structure Cx where
 prog:Program
 w:World
 K:PySem.W.Frag
 mg:Str→Option Value
 base:Heap
 A:Around
 N:List Str
 dQ:Shared
 fA:Hp
 env:Env
 outer:List Env
 stack:List Env
 ex:List Addr
 fn:Str→Bool
 calm:Bool
 pn:List (Addr×Obj)
 xe:Value→Shared→Prop
def pV(l:List Env):List Addr:=qG (·.frame)
abbrev Cx.fs(X:Cx):List Addr:=pV X.outer
def U6(sc:Scope)(x:Str):Prop:=sc.names.lookup x=some .local∨sc.names.lookup x=some .cell∨sc.names.lookup x=some .free
def Loc(sc:Scope)(x:Str):Prop:=sc.names.lookup x=some .local∨sc.names.lookup x=some .cell
def Look(env:Env)(h:Heap)(m:Str→Option Value)(x:Str)(u:Value):Prop:=
 (env.kindOf x=some .local∧m x=some u)∨((env.kindOf x=some .cell∨env.kindOf x=some .free)∧∃c,env.cells.lookup x=some c∧h.IsCell c (some u))
structure Cx.Ok(X:Cx):Prop where
 mod:Mod X.K X.mg X.base
 kind:X.env.scope.kind= .function
 glob:X.env.globals=mainGlobals
 blt:X.env.builtins=builtinsNs
 above:X.dQ.heap.objs.size≤X.env.locals
 inj:∀x y c,X.env.cells.lookup x=some c→X.env.cells.lookup y=some c→x=y
 has:∀x,(X.env.kindOf x=some .cell∨X.env.kindOf x=some .free)→∃c,X.env.cells.lookup x=some c
 U7:∀x c,X.fn x=true→X.env.cells.lookup x=some c→X.dQ.heap.objs.size≤c
 hd:X.calm=true→X.A.handled=none
 frames:X.A.frames=some X.stack
 XG:X.stack=X.outer∨(X.stack=X.env::X.outer∧X.env.frame=some X.env.locals)
 exf:∀b∈X.ex,b≠X.env.locals∧∀x c,X.env.cells.lookup x=some c→c≠b
 bs:∀b o,X.base.get? b=some o→X.dQ.heap.get? b=some o∧X.fA b=none
 MR:X.base.objs.size≤X.dQ.heap.objs.size
 MS:∀b o,X.base.get? b=some o→b∉X.ex
 abe:∀b∈X.ex,b∉X.fs
 vY:X.dQ.heap.FunFrames X.base X.outer
 Qq:∀b∈X.fs,X.fA b=none
structure Inv(X:Cx)(pins:List (Addr×Obj))(σ:List (Gk V))(H:Hp)(s:Shared):Prop where
 ok:X.Ok
 os:s.os=X.dQ.os
 bare:AllBare s.gens
 base:Un X.fs X.ex X.fA H X.dQ.heap s.heap
 loc:∃m,s.heap.Ns X.env.locals m∧∀(i:Nat)(x:Str)(v:V),X.N[i]?=some x→σ[i]?=some (some v)→U6 X.env.scope x→∃u,RelV v u∧Look X.env s.heap m x u
 cell:∀x c,X.env.cells.lookup x=some c→∃v,s.heap.IsCell c v
 free:H X.env.locals=none
 oB:∀x c,X.env.cells.lookup x=some c→H c=none
 pin:∀p∈X.pn++pins,s.heap.get? p.1=some p.2∧H p.1=none∧p.1≠X.env.locals∧p.1∉X.fs∧∀v,p.2.data≠ .cell v
 cc:mH X.prog X.w H s.heap
 len:σ.length=X.N.length
section
variable{X:Cx}{pins:List (Addr×Obj)}{σ:List (Option V)}{H H':Hp}{s:Shared}{h':Heap}
theorem Cx.Ok.auy(ok:X.Ok){b}(e:X.base.get? b=some o):b∉X.fs:=fun hb=>by
 have:=(ok.vY.mem hb).1;rw[e]at this;cases this
theorem Inv.bs(I:Inv X pins σ H s):∀b o,X.base.get? b=some o→s.heap.get? b=some o∧H b=none:=fun b o e=>
 ⟨lA (Vg e).1 (Vg e).2 (I.ok.auy e) (I.ok.MS b o e),X6 (Vg e).1 (Vg e).2 (I.ok.MS b o e)⟩
theorem Inv.bk(I:Inv X pins σ H s):∀b o,X.base.get? b=some o→s.heap.get? b=some o:=fun b o e=>(I.bs b o e).1
theorem Inv.mod(I:Inv X pins σ H s):Mod X.K X.mg X.base:=I.ok.mod
theorem Inv.rj(I:Inv X pins σ H s):X.K.In s.heap:=I.ok.mod.Pd.keeps I.bk
theorem Inv.lt(I:Inv X pins σ H s):X.env.locals<s.heap.objs.size:=let ⟨_,hn,_⟩:=I.loc;hn.lt
theorem Inv.sz(I:Inv X pins σ H s):X.dQ.heap.objs.size≤s.heap.objs.size:=E3 I.ok.above (pL I.lt)
theorem Inv.ahT(I:Inv X pins σ H s){a}(h:s.heap.objs.size≤a):a∉X.fs:=fun hb=>by
 obtain⟨_,o,ho,_⟩:=I.ok.vY.mem hb;exact IS (JM (Bf ho) (E3 I.sz h))
theorem Inv.MT(I:Inv X pins σ H s):∀x c,X.env.cells.lookup x=some c→c≠X.env.locals:=fun x c e z=>by
 obtain⟨v,o,ho,hd⟩:=I.cell x c e;obtain⟨m,⟨o',es,ep,MU,Pe,_⟩,_⟩:=I.loc;rw[z,MU]at ho;cases ho;rw[Pe]at hd;cases hd
theorem Inv.vY(I:Inv X pins σ H s):s.heap.FunFrames X.base X.outer:=by
 have all:∀(l:List Env),(∀b∈pV l,b∈X.fs)→X.dQ.heap.FunFrames X.base l→s.heap.FunFrames X.base l:=by
  intro l
  induction l with
  |nil=>intro _ _;trivial
  |cons env r ih=>
   intro hs hl;obtain⟨hk,⟨L,o,hf,hn,ho,hd⟩,hr⟩:=hl;have hL:L∈X.fs:=hs L (by unfold pV;rw[List.filterMap_cons,hf];exact List.mem_cons_self);obtain⟨sl,e⟩:=I.base.slot L o ho (I.ok.Qq L hL) hL fun z=>I.ok.abe L z hL
   exact⟨hk,⟨L,_,hf,hn,e,hd⟩,ih (fun b hb=>hs b (by unfold pV;rw[List.filterMap_cons,hf];exact Ep hb)) hr⟩
 exact all X.outer (fun _ hb=>hb) I.ok.vY
theorem Inv.stack(I:Inv X pins σ H s):s.heap.FunFrames X.base X.stack:=by
 rcases I.ok.XG with e|⟨e,hf⟩
 ·rw[e];exact I.vY
 ·rw[e];obtain⟨m,hn,_⟩:=I.loc;refine .cons (by rw[I.ok.kind];decide) hf hn ?_ I.vY;exact Heap.get?_none_of_le (E3 I.ok.MR I.ok.above)
theorem Inv.uk(I:Inv X pins σ H s):∀b∈pV X.stack,b∈X.env.locals::X.fs:=fun b hb=>by
 rcases I.ok.XG with e|⟨e,hf⟩
 ·rw[e]at hb;exact Ep hb
 ·rw[e]at hb;unfold pV at hb;rw[List.filterMap_cons,hf]at hb;exact hb
theorem Inv.x5(I:Inv X pins σ H s):∀b∈pV X.stack,H b=none:=fun b hb=>by
 rcases List.mem_cons.mp (I.uk b hb)with e|hb
 ·rw[e];exact I.free
 ·obtain⟨_,o,ho,_⟩:=I.ok.vY.mem hb;exact I.base.free b o ho (I.ok.Qq b hb) fun z=>I.ok.abe b z hb
theorem Inv.step{g':Array GenState}{t':Nat}{d':Drawn}{ch:List Addr}(I:Inv X pins σ H s)
  (Jk:∀b∈ch,(b∈X.ex∨X.dQ.heap.objs.size≤b)∧b≠X.env.locals∧(∀x c,X.env.cells.lookup x=some c→c≠b)∧∀p∈X.pn++pins,p.1≠b)
  (keep:∀b o,b≠X.env.locals→b∉X.fs→b∉ch→s.heap.get? b=some o→H b=none→h'.get? b=some o)
  (slot:∀b o,b≠X.env.locals→b∈X.fs→b∉ch→s.heap.get? b=some o→H b=none→∃sl,h'.get? b=some {o with slots:=sl}) (free:∀b o,b∉ch→s.heap.get? b=some o→H b=none→H' b=none)
  (there:∀b o,b∉ch→s.heap.get? b=some o→∃o',h'.get? b=some o')
  (cT:∀b xs,H b=some (.tup xs)→H' b=some (.tup xs)) (pY:∀b o u,H b=some (.t9 o u)→H' b=some (.t9 o u)) (tH:∀b ps,H b=some (.JI ps)→∃more,H' b=some (.JI (ps++more)))
  (ns:∀m,s.heap.Ns X.env.locals m→h'.Ns X.env.locals m) (cc:mH X.prog X.w H' h') (hg:AllBare g'):
  Inv X pins σ H' {s with heap:=h',gens:=g',drawn:=d',toks:=t'}:=by
 have aaa:∀b o,X.dQ.heap.get? b=some o→b≠X.env.locals:=fun b o e=>Dn (sL I.ok.above)
 have alg:∀b o,X.dQ.heap.get? b=some o→b∉X.ex→b∉ch:=fun b o e hx hb=>by
  rcases(Jk b hb).1 with z|z
  ·exact hx z
  ·exact IS (sL z)
 have cellK:∀x c,X.env.cells.lookup x=some c→∀v,s.heap.IsCell c v→h'.IsCell c v:=fun x c e v ⟨o,ho,hd⟩=>by
  have Qr:c∉ch:=fun z=>(Jk c z).2.2.1 x c e rfl
  by_cases hc:c∈X.fs
  ·obtain⟨sl,q⟩:=slot c o (I.MT x c e) hc Qr ho (KA e);exact⟨_,q,hd⟩
  ·exact⟨o,keep c o (I.MT x c e) hc Qr ho (KA e),hd⟩
 refine⟨I.ok,I.os,hg,⟨fun b o e n hb hx=>?_,fun b o e n hb hx=>?_,fun b o e n hx=>?_,fun b o e hx=>?_,fun b xs e=>cT b xs (I.base.cT b xs e),fun b o xs e=>pY b o xs (I.base.pY b o xs e),fun b ps e=>?_⟩,?_,fun x c e=>?_,?_,fun x c e=>?_,fun p hp=>?_,cc,I.len⟩
 ·exact keep b o (aaa b o e) hb Xy (lA e n hb hx) (X6 e n hx)
 ·obtain⟨sl,e1⟩:=I.base.slot b o e n hb hx;obtain⟨U_,e2⟩:=slot b _ (aaa b o e) hb Xy e1 (X6 e n hx);exact⟨U_,e2⟩
 ·obtain⟨o',e1⟩:=I.base.there b o e hx;exact free b o' Xy e1 (X6 e n hx)
 ·obtain⟨o',e1⟩:=I.base.there b o e hx;exact there b o' Xy e1
 ·obtain⟨m1,e1⟩:=I.base.tH b ps e;obtain⟨m2,e2⟩:=tH b _ e1;exact⟨m1++m2,by rw[e2,Array.append_assoc]⟩
 ·obtain⟨m,hn,hl⟩:=I.loc;refine⟨m,ns m hn,fun i x v e1 e2 e3=>?_⟩;obtain⟨u,r,l⟩:=hl i x v e1 e2 e3;refine⟨u,r,?_⟩;rcases l with l|⟨k,c,e,z⟩
  ·exact .inl l
  ·exact .inr ⟨k,c,e,cellK x c e _ z⟩
 ·obtain⟨v,z⟩:=I.cell x c e;exact⟨v,cellK x c e v z⟩
 ·obtain⟨m,⟨o,_,_,ho,_⟩,_⟩:=I.loc;exact free _ o (fun z=>(Jk _ z).2.1 rfl) ho I.free
 ·obtain⟨v,o,ho,hd⟩:=I.cell x c e;exact free c o (fun z=>(Jk c z).2.2.1 x c e rfl) ho (KA e)
 ·obtain⟨e,n,ne,nf,d⟩:=I.pin p hp;have Qr:p.1∉ch:=fun z=>(Jk p.1 z).2.2.2 p hp rfl
  exact⟨keep p.1 p.2 ne nf Qr e n,free p.1 p.2 Qr e n,ne,nf,d⟩
theorem Inv.un(I:Inv X pins σ H s)(u:Un X.fs [] H H' s.heap h')(cc:mH X.prog X.w H' h'):Inv X pins σ H' {s with heap:=h',toks:=t'}:=by
 obtain⟨m,⟨o,es,ep,ho,r⟩,_⟩:=id I.loc;obtain⟨sl,hL⟩:=u.any ho I.free A9;exact I.step (g':=s.gens) (d':=s.drawn) (ch:=[]) (fun _ z=>nomatch z) (fun b o _ hb _ e n=>u.keep b o e n hb A9) (fun b o _ hb _ e n=>u.slot b o e n hb A9) (fun b o _ e n=>u.free b o e n A9) (fun b o _ e=>u.there b o e A9) u.cT u.pY u.tH (fun m' hm=>by
  obtain⟨o',Ti,Tj,MU,r'⟩:=hm;rw[ho]at MU;cases MU;exact⟨_,Ti,Tj,hL,r'⟩) cc I.bare
theorem Inv.call{ch}(I:Inv X pins σ H s)(u:Un sU ch H H' s.heap h')(cc:mH X.prog X.w H' h')(hg:AllBare g')
  (Jk:∀b∈ch,(b∈X.ex∨X.dQ.heap.objs.size≤b)∧b≠X.env.locals∧(∀x c,X.env.cells.lookup x=some c→c≠b)∧∀p∈X.pn++pins,p.1≠b):
  Inv X pins σ H' {s with heap:=h',gens:=g',drawn:=d',toks:=t'}:=by
 obtain⟨m,⟨o,es,ep,ho,r⟩,_⟩:=id I.loc;obtain⟨sl,hL⟩:=u.any ho I.free fun z=>(Jk _ z).2.1 rfl
 exact I.step (ch:=ch) Jk (fun b o hL hb hc e n=>u.keep b o e n (fun z=>(List.mem_cons.mp (I.uk b z)).elim hL hb) hc) (fun b o _ _ hc e n=>u.any e n hc) (fun b o hc e n=>u.free b o e n hc) (fun b o hc e=>u.there b o e hc) u.cT u.pY u.tH (fun m' hm=>by
  obtain⟨o',Ti,Tj,MU,r'⟩:=hm;rw[ho]at MU;cases MU;exact⟨_,Ti,Tj,hL,r'⟩) cc hg
theorem Inv.turned(I:Inv X pins σ H s)(k:∀b o,b≠it→s.heap.get? b=some o→h'.get? b=some o)(hn:H it=none)(hL:it≠X.env.locals)
  (h1:it∈X.ex∨X.dQ.heap.objs.size≤it) (h2:∀x c,X.env.cells.lookup x=some c→c≠it) (h3:∀p∈X.pn++pins,p.1≠it):Inv X pins σ H {s with heap:=h',toks:=t'}:=by
 have LA:∀b u,H b=some u→b≠it:=fun b u e z=>by rw[z,hn]at e;cases e
 refine I.step (g':=s.gens) (d':=s.drawn) (ch:=[it]) (fun b hb=>?_) (fun b o _ _ hc e _=>k b o (fun z=>hc (by simp[z])) e) (fun b o _ _ hc e _=>⟨o.slots,k b o (fun z=>hc (by simp[z])) e⟩) (fun _ _ _ _ n=>n)
  (fun b o hc e=>⟨o,k b o (fun z=>hc (by simp[z])) e⟩) (fun _ _ e=>e) (fun _ _ _ e=>e) (fun b ps e=>⟨#[],by rw[e];simp⟩) (fun m hm=>?_) (fun b u e=>?_) I.bare
 ·have e:b=it:=by simpa using hb
  subst e;exact⟨h1,hL,h2,h3⟩
 ·obtain⟨o,es,ep,ho,r⟩:=hm;exact⟨o,es,ep,k _ o (Ay hL) ho,r⟩
 ·refine(R1 u e).xY aud (fun _ q=>q) fun _ _ q=>q
  rcases hc with z|z
  ·rw[z];exact LA b u e
  ·exact LA c _ z
theorem Inv.tok(I:Inv X pins σ H s) (t):Inv X pins σ H {s with toks:=t}:=I.un (h':=s.heap) (t':=t) Un.refl I.cc
theorem Inv.kept(I:Inv X pins σ H s)(k:∀b u,s.heap.get? b=some u→h'.get? b=some u):Inv X pins σ H {s with heap:=h',toks:=t'}:=I.un (Un.kept k) (I.cc.kept k)
theorem Inv.laid{a}(I:Inv X pins σ H s)(k:∀b u,s.heap.get? b=some u→h'.get? b=some u)(hp:s.heap.objs.size≤a)(new:dA X.prog X.w Nt h' a o):
  Inv X pins σ Nt {s with heap:=h',toks:=t'}:=I.un (Un.laid k hp (HA hp)) (I.cc.laid k hp new)
theorem Inv.write(I:Inv X pins σ H s)(mu:Qn (H x))(he:e=x∨H e=some (.own x))(k:∀b u,b≠e→s.heap.get? b=some u→h'.get? b=some u)(Pc:∃u,h'.get? e=some u)
  (new:dA X.prog X.w (Hh o) h' x o):Inv X pins σ (Hh o) {s with heap:=h',toks:=t'}:=I.un (Un.write mu he k Pc) (I.cc.write mu he k Pc new)
theorem Inv.Dp{adW}(I:Inv X pins σ H s)(h:∀p∈adW,s.heap.get? p.1=some p.2∧H p.1=none∧p.1≠X.env.locals∧p.1∉X.fs∧∀v,p.2.data≠ .cell v):Inv X adW σ H s:=
 ⟨I.ok,I.os,I.bare,I.base,I.loc,I.cell,I.free,I.oB,fun p hp=>(K2 hp).elim (fun z=>Og (CW z)) (h p),I.cc,I.len⟩
theorem aaB{N:List Str}(hN:N.Nodup){i j:Nat}{x:Str}(a:N[i]?=some x)(b:N[j]?=some x):i=j:=by
 obtain⟨h1,e1⟩:=AM a;obtain⟨h2,e2⟩:=AM b;exact(YZ hN).mp (e1.trans e2.symm)
theorem xp(I:Inv X pins σ H s)(hN:X.N.Nodup)(hi:X.N[i]?=some x)(hx:Loc X.env.scope x)(r:RelV v u)
  (h:∀s',Inv X pins jS H s'→(∃a,Heap.SameBut a s.heap s'.heap∧(a=X.env.locals∨X.env.cells.lookup x=some a))→Q () s') (hf:X.fn x=true∨X.env.scope.names.lookup x=some .local:=by first|exact .inl rfl|exact .inr rfl|assumption):wpAny M A (storeName X.env x u) Q E s:=by
 obtain⟨m,hn,hl⟩:=id I.loc;have awQ:(X.env.scope.kind== .class||(X.env.scope.kind== .module&&X.env.locals !=X.env.globals))=false:=by rw[I.ok.kind];rfl
 have Qs:i<σ.length:=by rw[I.len];exact(AM hi).1
 have MT:=I.MT;have tracked:∀{a:Addr}{h':Heap},(∃o,s.heap.get? a=some o∧H a=none)→Heap.SameBut a s.heap h'→mH X.prog X.w H h':=fun{a h'} ha hs b ob e=>by
  obtain⟨_,_,Dq⟩:=ha;refine(R1 ob e).xY (fun c w' hc q=>(hs.2 c ?_).trans q) (fun _ q=>q) fun _ _ q=>q
  rintro rfl;rcases hc with rfl|hc
  ·rw[Dq]at e;cases e
  ·rw[Dq]at hc;cases hc
 rcases hx with hk|hk
 ·refine wpAny_storeName_local hk hn (fun h' Gx hs=>?_) awQ;obtain⟨oL,_,_,LC,_⟩:=id hn;refine h _ ⟨I.ok,I.os,I.bare,⟨fun b o e n hb hx=>?_,fun b o e n hb hx=>?_,I.base.free,fun b o e hx=>?_,I.base.cT,I.base.pY,I.base.tH⟩,⟨_,Gx,fun j y v' e1 e2 e3=>?_⟩,fun y c e=>?_,I.free,I.oB,fun p hp=>?_,tracked ⟨oL,LC,I.free⟩ hs,by simpa using I.len⟩ ⟨_,hs, .inl rfl⟩
  ·exact(ZP b).trans xh
  ·obtain⟨sl,e1⟩:=I.base.slot b o e n hb hx;exact⟨sl,(ZP b).trans e1⟩
  ·obtain⟨o',e1⟩:=I.base.there b o e hx;exact⟨o',(ZP b).trans e1⟩
  ·by_cases hj:j=i
   ·subst hj;rw[hi]at e1;cases e1;rw[jc Qs]at e2;cases e2;exact⟨u,r, .inl ⟨hk,AA⟩⟩
   ·rw[sf (Ay hj)]at e2;obtain⟨u',r',q⟩:=hl j y v' e1 e2 e3;refine⟨u',r',?_⟩;rcases q with⟨k,e⟩|⟨k,c,e,z⟩
    ·refine .inl ⟨k,?_⟩;have:y≠x:=fun e=>hj (aaB hN e1 (e▸hi))
     simp[this,e]
    ·exact .inr ⟨k,c,e,y9 hs⟩
  ·obtain⟨w',z⟩:=I.cell y c e;exact⟨w',y9 hs⟩
  ·obtain⟨e,n,ne,nf,d⟩:=I.pin p hp;exact⟨(hs.2 p.1 ne).trans e,n,ne,nf,d⟩
 ·have Qt:X.fn x=true:=by
   rcases hf with z|z
   ·exact z
   ·rw[z]at hk;cases hk
  obtain⟨c,hc⟩:=I.ok.has x (.inl hk);obtain⟨w',z⟩:=I.cell x c hc;refine wpAny_storeName_cell I.ok.kind hk hc z (fun h' MV hs=>?_);obtain⟨oc,acr,alN⟩:=id z;refine h {s with heap:=h'} ⟨I.ok,I.os,I.bare,⟨fun b o e n hb hx=>?_,fun b o e n hb hx=>?_,I.base.free,fun b o e hx=>?_,I.base.cT,I.base.pY,I.base.tH⟩,⟨m,hn.sameBut hs (Ay (MT x c hc)),fun j y v' e1 e2 e3=>?_⟩,fun y c' e=>?_,I.free,I.oB,fun p hp=>?_,tracked ⟨oc,acr,KA hc⟩ hs,by simpa using I.len⟩ ⟨c,hs, .inr hc⟩
  ·exact(r_ b).trans xh
  ·obtain⟨sl,e1⟩:=I.base.slot b o e n hb hx;exact⟨sl,(r_ b).trans e1⟩
  ·obtain⟨o',e1⟩:=I.base.there b o e hx;exact⟨o',(r_ b).trans e1⟩
  ·by_cases hj:j=i
   ·subst hj;rw[hi]at e1;cases e1;rw[jc Qs]at e2;cases e2;exact⟨u,r, .inr ⟨.inl hk,c,hc,MV⟩⟩
   ·rw[sf (Ay hj)]at e2;obtain⟨u',r',q⟩:=hl j y v' e1 e2 e3;refine⟨u',r',?_⟩;rcases q with q|⟨k,c',e,z'⟩
    ·exact .inl q
    ·refine .inr ⟨k,c',e,z'.sameBut hs ?_⟩;rintro rfl;exact hj (aaB hN e1 (I.ok.inj _ _ _ e hc▸hi))
  ·by_cases abr:c'=c
   ·subst abr;exact⟨_,MV⟩
   ·obtain⟨w2,z2⟩:=I.cell y c' e;exact⟨w2,z2.sameBut hs abr⟩
  ·obtain⟨e,n,ne,nf,d⟩:=I.pin p hp;refine⟨(hs.2 p.1 ?_).trans e,n,ne,nf,d⟩;intro q;rw[q,acr]at e;have q':oc=p.2:=Aw e;exact d w' (by rw[←q'];exact alN)
theorem Ac(I:Inv X pins σ H s)(hN:X.N.Nodup)(hi:X.N[i]?=some x)(hx:Loc X.env.scope x)(r:RelV v u)
  (h:∀s',Inv X pins jS H s'→Q () s') (hf:X.fn x=true∨X.env.scope.names.lookup x=some .local:=by first|exact .inl rfl|exact .inr rfl|assumption):wpAny M A (storeName X.env x u) Q E s:=
 xp I hN hi hx r (fun s' I' _=>h s' I') hf
theorem Inv.amt{s'}{ch}(I:Inv X pins σ H s)(ho:s'.os=s.os)(u:Un sU ch H H' s.heap s'.heap)(cc:mH X.prog X.w H' s'.heap)(hg:AllBare s'.gens)
  (Jk:∀b∈ch,(b∈X.ex∨X.dQ.heap.objs.size≤b)∧b≠X.env.locals∧(∀x c,X.env.cells.lookup x=some c→c≠b)∧∀p∈X.pn++pins,p.1≠b):Inv X pins σ H' s':=by
 obtain⟨h',g',d',t',o'⟩:=s';have e:o'=s.os:=ho;subst e;exact I.call (g':=g') (t':=t') (d':=d') u cc hg Jk
end
abbrev XK:=Value→Option Addr→Hp→Prop
abbrev St:=List (Gk V)
abbrev VK:=V→Hp→Prop
abbrev TE:=St→Hp→VK→Prop
abbrev TT:=St→Hp→(Bool→Hp→Prop)→Prop
abbrev TA:=St→Hp→(List V→Hp→Prop)→Prop
structure Ends where
 nx:St→Hp→Prop
 rt:VK
 bk:St→Hp→Prop:=fun _ _=>False
 ct:St→Hp→Prop:=fun _ _=>False
abbrev TS:=Ends→St→Hp→Prop
def EP(X:Cx)(pins:List (Addr×Obj))(σ:St)(Q:VK)(u:Value)(s':Shared):Prop:=∃v H',Inv X pins σ H' s'∧RelV v u∧Q v H'
def TP(X:Cx)(pins:List (Addr×Obj))(σ:St)(Q:Bool→Hp→Prop)(b:Bool)(s':Shared):Prop:=∃H',Inv X pins σ H' s'∧Q b H'
def AP(X:Cx)(pins:List (Addr×Obj))(σ:St)(Q:List V→Hp→Prop)(us:List Value)(s':Shared):Prop:=∃vs H',Inv X pins σ H' s'∧Vals vs us∧Q vs H'
def SP(X:Cx)(pins:List (Addr×Obj))(D:Ends)(f:Flow)(s':Shared):Prop:=
 match f with
 | .next=>∃bK H',Inv X pins bK H' s'∧D.nx bK H'
 | .brk=>∃bK H',Inv X pins bK H' s'∧D.bk bK H'
 | .cont=>∃bK H',Inv X pins bK H' s'∧D.ct bK H'
 | .ret u=>∃v bK H',Inv X pins bK H' s'∧RelV v u∧D.rt v H'
def PE(X:Cx)(e:Expr)(t:TE):Prop:=
 ∀(pins:List (Addr×Obj))(s:Shared)(σ:St)(H:Hp)(Q:VK),Inv X pins σ H s→t σ H Q→wpAny Ak X.A (eval e X.env) (DR Q) X.xe s
def PT(X:Cx)(e:Expr)(t:TT):Prop:=
 ∀(pins:List (Addr×Obj))(s:Shared)(σ:St)(H:Hp)(Q:Bool→Hp→Prop),Inv X pins σ H s→t σ H Q→wpAny Ak X.A (isTrue e X.env (eval e X.env)) (pN Q) X.xe s
def PW(X:Cx)(e:Expr)(t:TT):Prop:=
 ∀(whole:Sem Value)(pins:List (Addr×Obj))(s:Shared)(σ:St)(H:Hp)(Q:Bool→Hp→Prop),Inv X pins σ H s→t σ H Q→wpAny Ak X.A (isTrue e X.env whole) (pN Q) X.xe s
theorem PW.pt{X}{e}{t}(h:PW X e t):PT X e t:=h _
def PA(X:Cx)(es:List Expr)(t:TA):Prop:=
 ∀(pos:Pos)(pins:List (Addr×Obj))(s:Shared)(σ:St)(H:Hp)(Q:List V→Hp→Prop),Inv X pins σ H s→t σ H Q→wpAny Ak X.A (spliced (EB pos)) (AP X pins σ Q) X.xe s
def PS(X:Cx)(st:Stmt)(t:TS):Prop:=
 ∀(pins:List (Addr×Obj))(s:Shared)(σ:St)(H:Hp)(D:Ends),Inv X pins σ H s→t D σ H→wpAny Ak X.A (exec st X.env) (SP X pins D) X.xe s
def EE(X:Cx)(st:List Stmt)(t:TS):Prop:=
 ∀(pins:List (Addr×Obj))(s:Shared)(σ:St)(H:Hp)(D:Ends),Inv X pins σ H s→t D σ H→wpAny Ak X.A (execs st X.env) (SP X pins D) X.xe s
theorem cU{α:Type}{t:Sem α}{Q Q':α→Shared→Prop}{M:Model}{A:Around}{E:Value→Shared→Prop}{s:Shared}(h:wpAny M A t Q E s)(hQ:∀a s,Q a s→Q' a s):wpAny M A t Q' E s:=wpAny_mono h hQ fun _ _ x=>x
section
variable{X:Cx}
theorem bin{a b:Expr}{ta tb:TE}(ha:PE X a ta)(hb:PE X b tb){pins:List (Addr×Obj)}{s:Shared}{σ:St}{H:Hp}{R:V→V→Hp→Prop}(I:Inv X pins σ H s)(h:ta σ H fun x H1=>tb σ H1 fun y H2=>R x y H2)
  {α:Type} {Q:α→Shared→Prop} {f:Value→Value→Sem α}
  (hf:∀v u s2 x y H2,Inv X pins σ H2 s2→RelV x v→RelV y u→R x y H2→wpAny Ak X.A (f v u) Q X.xe s2):
  wpAny Ak X.A (eval a X.env) (fun v cf=>zA cf) X.xe s:=by
 refine cU G7 fun v s1 ⟨x,H1,I1,r1,q1⟩=>?_
 refine cU pM fun u s2 ⟨y,H2,I2,r2,q2⟩=>?_
 exact hf v u s2 x y H2 I2 r1 r2 q2
inductive MW(i:Nat)(σ:St)(H:Hp)(Q:VK):Prop
 |mk (v) (_:σ[i]?=some (some v)) (_:Q v H):MW i σ H Q
def tC(v:V):TE:=fun _ H Q=>Q v H
theorem ahN(hN:X.N[i]?=some x)(hv:U6 X.env.scope x)(hd:(x==("__debug__":Str))=false:=by decide)(EF:(x==("__classdict__":Str))=false:=by decide):PE X (.Name x pos) (MW i):=by
 intro pins s σ H Q I h;obtain⟨v,e,h⟩:=h;obtain⟨m,hn,hl⟩:=I.loc;obtain⟨u,r,l⟩:=hl i x v hN e hv;have fin:EP X pins σ Q u s:=⟨v,H,I,r,h⟩
 rcases l with⟨hk,hm⟩|⟨hk,c,hc,aaE⟩
 ·exact sD (wpAny_loadName_local I.ok.kind hk hn hm fin)
 ·rcases hk with hk|hk
  ·exact sD (wpAny_loadName_cell I.ok.kind hk hc aaE fin)
  ·exact sD (wpAny_loadName_free I.ok.kind hk hc aaE fin EF)
theorem ai{i j pos}:PE X (.Constant (.int i) j pos) (tC (.int i)):=fun _ _ _ H _ I h=>wpAny_Constant_int ⟨.int i,H,I.tok _,⟨_,rfl⟩,h⟩
theorem dF{b j pos}:PE X (.Constant (.bool b) j pos) (tC (.bl b)):=fun _ _ _ H _ I h=>Constant_bool ⟨.bl b,H,I,rfl,h⟩
theorem jD{j pos}:PE X (.Constant .none j pos) (tC .de):=fun _ _ _ H _ I h=>qT ⟨.de,H,I,rfl,h⟩
theorem eI{x j pos}:PE X (.Constant (.str x) j pos) (tC (.str x)):=fun _ _ _ H _ I h=>Calls.Constant_str ⟨.str x,H,I.tok _,⟨_,rfl⟩,h⟩
def Gl(X:Cx)(x:Str):Prop:=X.env.kindOf x=some .globalImplicit
theorem ajX(I:Inv X pins σ H s)(hg:Gl X x)(hm:X.mg x=some u)(h:Q u s)
  (hd:(x==("__debug__":Str))=false:=by decide):wpAny Ak X.A (eval (.Name x pos) X.env) Q E s:=
 Calls.Name_function_global I.ok.kind hg (Calls.loadGlobal_global (by rw[I.ok.glob];exact jU I.bk) hm h) hd
theorem jE(I:Inv X pins σ H s)(hg:Gl X x)(hm:X.mg x=none)(hv:bootBuiltins x=some u)(h:Q u s)
  (hn:x≠"__name__":=by decide) (hd:(x==("__debug__":Str))=false:=by decide):wpAny Ak X.A (eval (.Name x pos) X.env) Q E s:=by
 obtain⟨mb,h1,h2⟩:=I.mod.blt;exact Calls.Name_function_global I.ok.kind hg (Calls.loadGlobal_builtin (by rw[I.ok.glob];exact jU I.bk) hm (by rw[I.ok.blt];exact h1.keeps I.bk) ((h2 x hn).trans hv) h) hd
theorem abW(hg:Gl X x)(hm:X.mg x=some u)(r:RelV v u)(hd:(x==("__debug__":Str))=false:=by decide):PE X (.Name x pos) (tC v):=
 fun _ _ _ H _ I h=>su ⟨v,H,I,r,h⟩ hd
theorem nC{x}{v}{u}{pos}(hg:Gl X x)(hm:X.mg x=none)(hv:bootBuiltins x=some u)(r:RelV v u)(hn:x≠"__name__":=by decide)(hd:(x==("__debug__":Str))=false:=by decide):PE X (.Name x pos) (tC v):=
 fun _ _ _ H _ I h=>ky ⟨v,H,I,r,h⟩ hd
variable{a b:Expr}{ta tb:TE}{pos:Pos}
def PC(X:Cx)(op:CmpOp)(a b:Expr)(t:TE):Prop:=
 ∀(pins:List (Addr×Obj))(s:Shared)(σ:St)(H:Hp)(Q:VK),Inv X pins σ H s→t σ H Q→
  wpAny Ak X.A (eval a X.env) (fun v cf=>Sj (eval b X.env) (fun u rk=>Sj (compareOp op v u) (DR Q) rk) cf) X.xe s
theorem bq (b) (h:op≠ .In) (h2:op≠ .NotIn):behindInMarks op b=false:=by
 have e1:(op==CmpOp.In)=false:=by cases op<;>first|rfl|exact EV h
 have e2:(op==CmpOp.NotIn)=false:=by cases op<;>first|rfl|exact EV h2
 cases b<;>simp[behindInMarks,e1,e2]
def aqA(ta:TE):TE:=fun σ H Q=>ta σ H fun x H1=>Q (.bl (decide (x= .de))) H1
def apR(ta:TE):TE:=fun σ H Q=>ta σ H fun x H1=>Q (.bl (!decide (x= .de))) H1
theorem RelV.Ad(r:RelV x v):(v==Value.none)=decide (x= .de):=by
 cases x with
 |de=>cases r;rfl
 |bl _=>cases r;rfl
 |int _=>obtain⟨t,rfl⟩:=r;rfl
 |str _=>obtain⟨t,rfl⟩:=r;rfl
 |EC _=>obtain⟨t,rfl⟩:=r;rfl
 |Lz _=>obtain⟨t,rfl⟩:=r;rfl
 |ref _=>cases r;rfl
 |ty _=>cases r;rfl
theorem aph{j pos'}(ha:PE X a ta):PC X .Is a (.Constant .none j pos') (aqA ta):=by
 intro pins s σ H Q I h;refine cU G7 fun v s1 ⟨x,H1,I1,r1,q1⟩=>?_
 exact qT (is_none_gen ⟨.bl _,H1,I1,by rw[r1.Ad];rfl,q1⟩)
theorem atO{j pos'}(ha:PE X a ta):PC X .IsNot a (.Constant .none j pos') (apR ta):=by
 intro pins s σ H Q I h;refine cU G7 fun v s1 ⟨x,H1,I1,r1,q1⟩=>?_
 exact qT (isnot_none_gen ⟨.bl _,H1,I1,by rw[r1.Ad];rfl,q1⟩)
inductive aag(x:V)(H:Hp)(Q:Bool→Hp→Prop):Prop
 |mk (c) (_:x= .bl c) (_:Q c H):aag x H Q
def tB(t:TE):TT:=fun σ H Q=>t σ H fun x H1=>aag x H1 Q
theorem BJ{op}{t}(h:PC X op a b t)(h1:behindInMarks op b=false:=by first|exact bq _ (AN) (AN)|rfl):PE X (.Compare a [op] [b] pos) t:=fun pins s σ H Q I hw=>wpAny_Compare1 auN h1
theorem arU{op}{t}(h:PC X op a b t)(h1:behindInMarks op b=false:=by first|exact bq _ (AN) (AN)|rfl):PT X (.Compare a [op] [b] pos) (tB t):=by
 intro pins s σ H Q I hw;refine wpAny_isTrue_Compare1 (cU ZN fun v s1 h1=>cU h1 fun u s2 h2=>cU h2 fun c s3 ⟨x,H1,I1,r1,q1⟩=>?_) h1;obtain⟨d,rfl,q⟩:=q1;cases r1;exact LH ⟨H1,I1,q⟩
theorem atD{e}{t}(h:PE X e t)(he:∀whole,isTrue e X.env whole=(do let v←whole;standAt e.pos;holding [v] (truthy v)):=by intro _;rfl):PT X e (tB t):=by
 intro pins s σ H Q I hw;refine isTrue_plain (cU ZN fun v s1 ⟨x,H1,I1,r1,q1⟩=>?_) (he _);obtain⟨d,rfl,q⟩:=q1;cases r1;exact LH ⟨H1,I1,q⟩
variable{tA Tn:TT}{rest:List Expr}
def afF(t u:TT):TT:=fun σ H Q=>t σ H fun c H1=>if c=true then u σ H1 Q else Q false H1
def alQ(t u:TT):TT:=fun σ H Q=>t σ H fun c H1=>if c=true then Q true H1 else u σ H1 Q
def akU(t:TT):TT:=fun σ H Q=>t σ H fun c H1=>Q (!c) H1
theorem pw_and1(ha:PT X a tA):PW X (.BoolOp .And [a] pos) tA:=by
 intro wh pins s σ H Q I h;refine isTrue_and (cU xi fun c s1 e=>?_);cases c with
 |true=>exact isTrue_and_nil e
 |false=>exact e
theorem pw_or1(ha:PT X a tA):PW X (.BoolOp .Or [a] pos) tA:=by
 intro wh pins s σ H Q I h;refine isTrue_or (cU xi fun c s1 e=>?_);cases c with
 |false=>exact isTrue_or_nil e
 |true=>exact e
theorem pw_and(ha:PT X a tA)(hb:PW X (.BoolOp .And (b::rest) pos) Tn):PW X (.BoolOp .And (a::b::rest) pos) (afF tA Tn):=by
 intro wh pins s σ H Q I h;refine isTrue_and (cU G7 fun c s1 ⟨H1,I1,q1⟩=>?_);cases c with
 |true=>exact v5 Q
 |false=>exact⟨H1,I1,q1⟩
theorem pw_or(ha:PT X a tA)(hb:PW X (.BoolOp .Or (b::rest) pos) Tn):PW X (.BoolOp .Or (a::b::rest) pos) (alQ tA Tn):=by
 intro wh pins s σ H Q I h;refine isTrue_or (cU G7 fun c s1 ⟨H1,I1,q1⟩=>?_);cases c with
 |true=>exact⟨H1,I1,q1⟩
 |false=>exact v5 Q
theorem amY(ha:PT X a tA):PT X (.UnaryOp .Not a pos) (akU tA):=by
 intro pins s σ H Q I h;exact isTrue_not (VE s H (fun c H1=>Q (!c) H1) I h)
def auj(ta tb:TE):TE:=fun σ H Q=>ta σ H fun x H1=>∃c,x= .bl c∧if c=true then tb σ H1 Q else Q (.bl false) H1
def akO(ta:TE):TE:=fun σ H Q=>ta σ H fun x H1=>∃c,x= .bl c∧Q (.bl (!c)) H1
theorem avd{op}{t}(h:PE X a t):PE X (.BoolOp op [a] pos) t:=fun pins s σ H Q I hw=>BoolOp_one auN
theorem adp(ha:PE X a ta)(hb:PE X (.BoolOp .And (b::rest) pos) tb):PE X (.BoolOp .And (a::b::rest) pos) (auj ta tb):=by
 intro pins s σ H Q I h;refine BoolOp_and (cU G7 fun v s1 ⟨x,H1,I1,r1,q1⟩=>?_);obtain⟨c,rfl,q1⟩:=q1;cases r1;refine wpAny_truthy_bool ?_;cases c with
 |true=>exact jW Q
 |false=>exact⟨.bl false,H1,I1,rfl,q1⟩
theorem alu(ha:PE X a ta):PE X (.UnaryOp .Not a pos) (akO ta):=by
 intro pins s σ H Q I h;refine UnaryOp_ (cU G7 fun v s1 ⟨x,H1,I1,r1,q1⟩=>?_);obtain⟨c,rfl,q1⟩:=q1;cases r1;exact not_of (LH ⟨.bl (!c),H1,I1,rfl,q1⟩)
def asD(t:TT)(ta tb:TE):TE:=fun σ H Q=>t σ H fun c H1=>if c=true then ta σ H1 Q else tb σ H1 Q
theorem mI{c}(hc:PT X c tA)(ha:PE X a ta)(hb:PE X b tb):PE X (.IfExp c a b pos) (asD tA ta tb):=by
 intro pins s σ H Q I h;refine wpAny_IfExp (cU zQ fun d s1 ⟨H1,I1,q1⟩=>?_);cases d with
 |true=>exact VE s1 H1 Q I1 q1
 |false=>exact jW Q
end
def gF(K:PySem.W.Frag)(H:Hp)(a:Addr)(xs:List V):Prop:=
 Rd H a (.lst xs)∨
  ∃(o:Obj)(its:Array Value)(n:Nat),K.lookup a=some o∧o.cls= .type "list"∧o.dict=none∧o.data= .seq its n∧its.size≤sizeLine∧Vals xs its.toList
def Gy(K:PySem.W.Frag)(H:Hp)(a:Addr)(xs:List V):Prop:=
 Rd H a (.tup xs)∨
  ∃(o:Obj)(its:Array Value)(n:Nat),K.lookup a=some o∧o.cls= .type "tuple"∧o.data= .seq its n∧its.size≤sizeLine∧Vals xs its.toList
def agd:Value→Option V
 | .none=>some .de
 | .bool b=>some (.bl b)
 | .int i _=>some (.int i)
 | .str x _=>some (.str x)
 | .bytes b _=>some (.EC b)
 | .float b _=>some (.Lz b)
 | .ref a=>some (.ref a)
 | .type n=>some (.ty n)
 | _=>none
theorem RelV.abs(r:RelV x u):agd u=some x:=by
 cases x with
 |de=>cases r;rfl
 |bl _=>cases r;rfl
 |int _=>obtain⟨t,rfl⟩:=r;rfl
 |str _=>obtain⟨t,rfl⟩:=r;rfl
 |EC _=>obtain⟨t,rfl⟩:=r;rfl
 |Lz _=>obtain⟨t,rfl⟩:=r;rfl
 |ref _=>cases r;rfl
 |ty _=>cases r;rfl
theorem RelV.inj(r:RelV x u)(q:RelV y u):x=y:=Aw (r.abs.symm.trans q.abs)
theorem Vals.inj:∀{xs ys:List V}{us:List Value},Vals xs us→Vals ys us→xs=ys
 | _,_,_, .nil, .nil=>rfl
 | _,_,_, .cons r t, .cons r' t'=>by rw[r.inj r',Vals.inj t t']
section
variable{X:Cx}{pins:List (Addr×Obj)}{σ:St}{H:Hp}{s:Shared}{a:Addr}{xs ys:List V}
theorem gF.of{K:PySem.W.Frag}(h:H a=some (.lst xs)):gF K H a xs:= .inl (.inl h)
theorem Gy.of{K:PySem.W.Frag}(h:H a=some (.tup xs)):Gy K H a xs:= .inl (.inl h)
theorem Inv.list(I:Inv X pins σ H s)(h:gF X.K H a xs):∃its:List Value,Vals xs its∧PlainL s.heap a its.toArray∧xs.length≤sizeLine:=by
 rcases h with h|⟨o,its,n,hk,hc,hd,hs,hz,r⟩
 ·obtain⟨z,its,n,r,e⟩:=h.ok I.cc;exact⟨its,r,⟨_,n,e,rfl,rfl,rfl⟩,z⟩
 ·refine⟨its.toList,r,⟨o,n,ow a,hc,hd,by simpa using hs⟩,?_⟩;have e:=r.length;simp only[Array.length_toList]at e;omega
theorem Inv.tuple(I:Inv X pins σ H s)(h:Gy X.K H a xs):∃its:List Value,Vals xs its∧IsTup s.heap a its.toArray∧xs.length≤sizeLine:=by
 rcases h with h|⟨o,its,n,hk,hc,hs,hz,r⟩
 ·obtain⟨z,its,r,p⟩:=h.ok I.cc;exact⟨its,r,p,z⟩
 ·refine⟨its.toList,r,⟨o,ow a,hc,n,by simpa using hs⟩,?_⟩;have e:=r.length;simp only[Array.length_toList]at e;omega
theorem Inv.um(I:Inv X pins σ H s)(h:gF X.K H a xs)(h':gF X.K H a ys):xs=ys:=by
 obtain⟨its,r,⟨o,n,e,_,_,d⟩,_⟩:=DP h;obtain⟨its',r',⟨o',n',e',_,_,d'⟩,_⟩:=DP h';rw[e]at e';cases e';rw[d]at d';injection d' with d1 _;have:its=its':=by simpa using congrArg Array.toList d1
 subst this;exact r.inj r'
end
abbrev Cx.axh(X:Cx)(E:Value→Shared→Prop):Cx:={X with xe:=E}
section
variable{X:Cx}{pins:List (Addr×Obj)}{σ:St}{H:Hp}{s:Shared}{E:Value→Shared→Prop}
end
section
variable{X:Cx}{st:Stmt}{rest:List Stmt}{t u:TS}{e:Expr}{te:TE}{pos:Pos}
def awo:TS:=fun D σ H=>D.nx σ H
def atB(t u:TS):TS:=fun D σ H=>t {D with nx:=u D} σ H
theorem aP:EE X [] awo:=fun _ _ σ H _ I h=>Yh ⟨σ,H,I,h⟩
theorem ax(h1:PS X st t)(h2:EE X rest u):EE X (st::rest) (atB t u):=by
 intro pins s σ H D I h;refine wpAny_execs_cons (cU (h1 pins s σ H {D with nx:=u D} I h) fun f s1 q=>?_);cases f with
 |next=>
  obtain⟨bK,H',I',q⟩:=q;exact aqq D q
 |ret v=>exact q
 |brk=>exact q
 |cont=>exact q
theorem ao(h1:PS X st t):EE X [st] t:=by
 intro pins s σ H D I h;refine wpAny_execs_cons (cU (h1 pins s σ H D I h) fun f s1 q=>?_);cases f with
 |next=>exact Yh q
 |ret v=>exact q
 |brk=>exact q
 |cont=>exact q
theorem Inv.quiet(I:Inv X pins σ H s):interactive X.env=false:=by simp[interactive,I.ok.kind]
def aqR(te:TE):TS:=fun D σ H=>te σ H fun _ H1=>D.nx σ H1
theorem afH(he:PE X e te)(hs:swapsWith e none pos.line X.env=pure false:=by rfl):PS X (.Expr e pos) (aqR te):=by
 intro pins s σ H D I h;exact wpAny_Expr_any (cU Fj fun v s1 ⟨x,H1,I1,r1,q1⟩=>⟨σ,H1,I1,q1⟩) I.quiet hs
def atl(te:TE):TS:=fun D σ H=>te σ H D.rt
theorem aL(he:PE X e te):PS X (.Return (some e) pos) (atl te):=by
 intro pins s σ H D I h;exact wpAny_Return_some (cU Fj fun v s1 ⟨x,H1,I1,r1,q1⟩=>⟨x,σ,H1,I1,r1,q1⟩)
def ajp(c:TT)(t u:TS):TS:=fun D σ H=>c σ H fun b H1=>if b=true then t D σ H1 else u D σ H1
theorem a_{c}{a b}{tc}(hc:PT X c tc)(ha:EE X a t)(hb:EE X b u):PS X (.If c a b pos) (ajp tc t u):=by
 intro pins s σ H D I h;refine wpAny_If (cU zQ fun d s1 ⟨H1,I1,q1⟩=>?_);cases d with
 |true=>exact VE s1 H1 D I1 q1
 |false=>exact jW D
end
abbrev TG:=V→St→Hp→(St→Hp→Prop)→Prop
abbrev QB:=List V→St→Hp→(St→Hp→Prop)→Prop
def PG(X:Cx)(target:Expr)(t:TG):Prop:=
 ∀(pins:List (Addr×Obj))(s:Shared)(σ:St)(H:Hp)(v:V)(u:Value)(Q:St→Hp→Prop),Inv X pins σ H s→RelV v u→t v σ H Q→
  wpAny Ak X.A (assign target X.env u) (fun _ s'=>∃bK H',Inv X pins bK H' s'∧Q bK H') X.xe s
def QC(X:Cx)(ts:List Expr)(t:QB):Prop:=
 ∀(pins:List (Addr×Obj))(s:Shared)(σ:St)(H:Hp)(vs:List V)(us:List Value)(Q:St→Hp→Prop),Inv X pins σ H s→Vals vs us→t vs σ H Q→
  wpAny Ak X.A (assignInOrder ((II ts).map (·.2)) us) (fun _ s'=>∃bK H',Inv X pins bK H' s'∧Q bK H') X.xe s
abbrev acT:=V→V→V→Hp→(Hp→Prop)→Prop
def QE(X:Cx)(t:acT):Prop:=
 ∀(pins:List (Addr×Obj))(s:Shared)(σ:St)(H:Hp)(o i v:V)(ov iv u:Value)(Q:Hp→Prop),Inv X pins σ H s→RelV o ov→RelV i iv→RelV v u→t o i v H Q→
  wpAny Ak X.A (setItem ov iv u) (fun _ s'=>∃H',Inv X pins σ H' s'∧Q H') X.xe s
section
variable{X:Cx}{pos:Pos}
def Ds(i:Nat):TG:=fun v σ H Q=>Q jS H
theorem aI{i}{x}(hN:X.N.Nodup)(hi:X.N[i]?=some x)(hx:Loc X.env.scope x)(hf:X.fn x=true∨X.env.scope.names.lookup x=some .local:=by first|exact .inl rfl|exact .inr rfl|assumption):PG X (.Name x pos) (Ds i):=by
 intro pins s σ H v u Q I r h;exact wpAny_assign_Name (Ac I hN hi hx r (fun s' I'=>⟨_,H,I',h⟩) hf)
def aiU:QB:=fun vs σ H Q=>vs=[]∧Q σ H
def asI(t:TG)(u:QB):QB:=fun vs σ H Q=>∃v r,vs=v::r∧t v σ H fun bK H'=>u r bK H' Q
theorem aoQ:QC X [] aiU:=by
 intro pins s σ H vs us Q I r h;obtain⟨e,h⟩:=h;subst e;cases r;exact assignInOrder_nil ⟨σ,H,I,h⟩
theorem aV{e}{es}{t}{u}(h1:PG X e t)(h2:QC X es u)
  (hs:(II (e::es)).map (·.2)=assign e X.env::(II es).map (·.2):=by rfl):QC X (e::es) (asI t u):=by
 intro pins s σ H vs us Q I r h;obtain⟨v,vr,e1,h⟩:=h;subst e1;cases r with
 |cons r rr=>
  rw[hs];refine assignInOrder_cons (cU (h1 pins s σ H _ _ _ I r h) fun _ s1 ⟨Pf,H1,I1,q1⟩=>?_);exact h2 pins s1 Pf H1 _ _ Q I1 rr q1
inductive M0(K:PySem.W.Frag)(n:Nat)(t:QB)(v:V)(σ:St)(H:Hp)(Q:St→Hp→Prop):Prop
 |mk (a) (xs) (_:v= .ref a) (_:Gy K H a xs) (_:xs.length=n) (_:t xs σ H Q):M0 K n t v σ H Q
theorem ahl{t}(hc:X.calm=true)(h:QC X es t)
  (hn:(II es).length=n:=by rfl) (uo:(II es).findIdx? (·.1)=none:=by rfl):PG X (.Tuple es k pos) (M0 X.K n t):=by
 intro pins s σ H v u Q I r hw;obtain⟨a,xs,e1,hq,hl,hw⟩:=hw;subst e1;cases r;obtain⟨its,rv,ht,hz⟩:=Wz hq;refine assign_Tuple_tuple Gp ht (by simp[hn,←hl,rv.length]) uo fun h' hx=>?_
 have I1:Inv X pins σ H {s with heap:=h'}:=I.kept (t':=s.toks) fun b o e=>hx b o yZ e
 exact h pins _ σ H xs _ Q I1 (by simpa using rv) hw
def aov(to ti:TE)(t:acT):TG:=fun v σ H Q=>to σ H fun o H1=>ti σ H1 fun i H2=>t o i v H2 fun H3=>Q σ H3
theorem M5{o i}{to ti}{t}(ho:PE X o to)(hi:PE X i ti)(hs:QE X t)
  (ha:∀v,assign (.Subscript o i pos) X.env v=(do
   let ov←holding [v] (eval o X.env)
   let iv←holding [v,ov] (eval i X.env)
   standAt pos
   holding [v,ov,iv] (setItem ov iv v)
   release [v,ov,iv] []):=by intro _;rfl):PG X (.Subscript o i pos) (aov to ti t):=by
 intro pins s σ H v u Q I r h;rw[ha];refine wpAny_bind (IC (cU Nc fun ov s1 ⟨x,H1,I1,r1,q1⟩=>?_));refine wpAny_bind (IC (cU t_ fun iv s2 ⟨y,H2,I2,r2,q2⟩=>?_));refine wpAny_bind (Zr (Ax (IC (cU (hs pins s2 σ H2 x y v ov iv u _ I2 r1 r2 r q2) fun _ s3 ⟨H3,I3,q3⟩=>?_))));exact wpAny_release ⟨σ,H3,I3,q3⟩
def M6(te:TE)(g:TG):TS:=fun D σ H=>te σ H fun x H1=>g x σ H1 D.nx
theorem aox{tg e}{te}{g}(he:PE X e te)(hg:PG X tg g)(hs:swapsWithSole [tg] e pos.line X.env=pure false:=by rfl)(hw:swappedStores [tg] e X.env=pure none:=by rfl)
  (h1:(II [tg]).map (·.2)=[assign tg X.env]:=by rfl):PS X (.Assign [tg] e pos) (M6 te g):=by
 intro pins s σ H D I h;refine wpAny_Assign_stores (cU Fj fun v s1 ⟨x,H1,I1,r1,q1⟩=>?_) hs hw;rw[h1];exact cU (hg pins s1 σ H1 x v _ I1 r1 q1) fun _ s2 q=>q
theorem aF{i}{x}{e}{te}{pos'}(hN:X.N.Nodup)(hi:X.N[i]?=some x)(hx:Loc X.env.scope x)(he:PE X e te)(hs:swapsWith e (some (.Name x pos')) pos.line X.env=pure false:=by rfl)(hf:X.fn x=true∨X.env.scope.names.lookup x=some .local:=by first|exact .inl rfl|exact .inr rfl|assumption):
  PS X (.Assign [.Name x pos'] e pos) (M6 te (Ds i)):=by
 intro pins s σ H D I h;refine wpAny_Assign_Name (cU Fj fun v s1 ⟨y,H1,I1,r1,q1⟩=>?_) hs;exact Ac I1 hN hi hx r1 (fun s2 I2=>⟨_,H1,I2,q1⟩) hf
end
section
variable{X:Cx}{pos:Pos}
def ahU(c:TT)(tb:TS):TS:=fun D σ H=>∃W:Nat→St→Hp→Prop,(∃m,W m σ H)∧∀m σ H,W m σ H→
 c σ H fun b H1=>if b=true then ∃N:St→Hp→Prop,(∀bK H',N bK H'→∃m',m'<m∧W m' bK H')∧tb {D with nx:=N,ct:=N,bk:=D.nx} σ H1 else D.nx σ H1
theorem afn{c}{body}{tc}{tb}(hp:PassesOwn (VC X.w) X.A X.env X.xe)(hc:PT X c tc)(hb:EE X body tb):PS X (.While c body [] pos) (ahU tc tb):=by
 intro pins s σ H D I h;obtain⟨W,⟨m0,w0⟩,turn⟩:=h;refine wpAny_While (codeAny_whileLoop (fun n s'=>∃bK H',Inv X pins bK H' s'∧W n bK H') ?_ m0 ⟨σ,H,I,w0⟩);rintro n s1 ⟨Pf,H1,I1,w1⟩;refine wpAny_passesOwn hp (cU (hc pins s1 Pf H1 _ I1 (turn n Pf H1 w1)) fun b s2 ⟨H2,I2,q2⟩=>?_);cases b with
 |true=>
  obtain⟨N,hN,q2⟩:=q2;rw[if_pos rfl];refine wpAny_passesOwn hp (cU (zK s2 Pf H2 I2 q2) fun f s3 q3=>?_);cases f with
  |next=>
   obtain⟨Gz,H3,I3,n3⟩:=q3;obtain⟨m',hm,w3⟩:=hN Gz H3 n3;exact⟨m',hm,Gz,H3,I3,w3⟩
  |cont=>
   obtain⟨Gz,H3,I3,n3⟩:=q3;obtain⟨m',hm,w3⟩:=hN Gz H3 n3;exact⟨m',hm,Gz,H3,I3,w3⟩
  |brk=>exact q3
  |ret v=>exact q3
 |false=>
  rw[A6 Bool.false_ne_true];exact Yh ⟨Pf,H2,I2,q2⟩
end
structure It where
 go:Nat→Hp→Prop
 JL:Nat→Hp→V→Hp→Prop
 stop:Nat→Hp→Prop
def i4(X:Cx)(pins:List (Addr×Obj))(H:Hp)(b:Addr):Prop:=
 H b=none∧b≠X.env.locals∧b∉X.fs∧(b∈X.ex∨X.dQ.heap.objs.size≤b)∧(∀x c,X.env.cells.lookup x=some c→c≠b)∧∀p∈X.pn++pins,p.1≠b
theorem Inv.ur{b}(I:Inv X pins σ H s)(hb:s.heap.objs.size≤b)(hn:H' b=none):i4 X pins H' b:=by
 refine⟨hn,kJ (JM I.lt hb),I.ahT hb, .inr (E3 I.sz hb),fun x c e z=>?_,fun p hp z=>?_⟩
 ·obtain⟨v,q⟩:=I.cell x c e;exact IS (JM q.lt (by rw[z];exact hb))
 ·exact IS (JM (Bf (Og hp).1) (by rw[z];exact hb))
structure Turn(P:Program)(w:World)(K:PySem.W.Frag)(tg:Expr)(J:It)(fp:List Addr)(it:Addr)(tn:Nat→Heap→Prop):Prop where
 mem:it∈fp
 obj:∀i h,tn i h→∀b∈fp,∃o,h.get? b=some o∧∀v,o.data≠ .cell v
 keep:∀i h h',tn i h→(∀b∈fp,∀o,h.get? b=some o→h'.get? b=some o)→tn i h'
 item:∀(X:Cx),X.prog=P→X.w=w→X.K=K→X.calm=true→∀(i:Nat)(pins:List (Addr×Obj))(s:Shared)(σ:St)(H:Hp)(E:Value→Shared→Prop),Inv X pins σ H s→(∀b∈fp,IU H)→tn i s.heap→J.go i H→
  wpAny HC X.A (pyNext (.ref it)) (fun r s1=>∃u,r=some u∧
   wpAny HC X.A ave (fun _ s2=>∃x H',Inv X pins σ H' s2∧RelV x u∧J.JL i H x H'∧tn (i+1) s2.heap∧∀b∈fp,H' b=none) E s1) E s
 done:∀(X:Cx),X.prog=P→X.w=w→X.K=K→X.calm=true→∀(i:Nat)(pins:List (Addr×Obj))(s:Shared)(σ:St)(H:Hp)(E:Value→Shared→Prop),Inv X pins σ H s→(∀b∈fp,IU H)→tn i s.heap→J.stop i H→
  wpAny HC X.A (pyNext (.ref it)) (fun r s1=>r=none∧Inv X pins σ H s1) E s
 self:∀(A:Around)(i:Nat)(s:Shared)(Q:Value→Shared→Prop)(E:Value→Shared→Prop),tn i s.heap→Q (.ref it) s→wpAny HC A (pyIter (.ref it)) Q E s
abbrev TI:=St→Hp→(It→Hp→Prop)→Prop
def ajj(X:Cx)(pins:List (Addr×Obj))(σ:St)(tg:Expr)(R:It→Hp→Prop)(Vn:Value)(s2:Shared):Prop:=
 ∃(it:Addr)(fp:List Addr)(tn:Nat→Heap→Prop)(J:It)(H':Hp),Vn= .ref it∧Inv X pins σ H' s2∧Turn X.prog X.w X.K tg J fp it tn∧tn 0 s2.heap∧(∀b∈fp,IU H')∧R J H'
def PI(X:Cx)(tg iter:Expr)(wi:TI):Prop:=
 ∀(pins:List (Addr×Obj))(s:Shared)(σ:St)(H:Hp)(R:It→Hp→Prop),Inv X pins σ H s→wi σ H R→
  wpAny Ak X.A (eval iter X.env) (fun v s1=>Sj (pyIter v) (pO R) s1) X.xe s
theorem xq{E}{s}{tg}{it}{u}{Q}(ho:s.heap.get? it=some o)(hc:o.cls= .type n)(hd:o.data= .fields vs)
  (hn:["enumerate","zip","dict_itemiterator","dict_reverseitemiterator","odict_iterator","itertools.zip_longest","itertools.pairwise"].contains n=false) (hQ:Q () s):wpAny M A (nz tg (.ref it) u) Q E s:=by
 unfold letOwnedTupleGo;cases tg<;>first
  |exact B2 hQ
  |(cases u<;>first
    |exact B2 hQ
    |(refine wpAny_bind (wpAny_load ho ?_)
      rw[hc,hd];show wpAny M A (if (["enumerate","zip","dict_itemiterator","dict_reverseitemiterator","odict_iterator","itertools.zip_longest","itertools.pairwise"].contains n&&vs[0]?==some (rawInt _))=true then _ else _) Q E s;rw[A6 (by intro h;rw[hn,Bool.false_and]at h;cases h)];exact B2 hQ))
def Pg(K:PySem.W.Frag)(a:Addr):It:=
 ⟨fun i H=>∃xs x,gF K H a xs∧xs[i]?=some x,fun i H x H'=>H'=H∧∀xs,gF K H a xs→xs[i]?=some x,fun i H=>∃xs,gF K H a xs∧xs.length≤i⟩
def M8(lo:Int)(n:Nat):It:=⟨fun i _=>i<n,fun i H x H'=>H'=H∧x= .int (lo+i),fun i _=>n≤i⟩
theorem aev{K:PySem.W.Frag}(a it:_):Turn P w K tg kZ [it] it (fun i h=>h.IsListIter it a i) where
 mem:=AA
 obj:=fun i h st b hb=>by
  have e:b=it:=by simpa using hb
  subst e;obtain⟨o,e,c,d⟩:=st;exact⟨o,e,fun v z=>by rw[d]at z;cases z⟩
 keep:=fun i h h' st k=>st.at fun o e=>k it (AA) o e
 item:=by
  intro X hP hw hK hc i pins s σ H E I hf st hg;subst hP hw hK;obtain⟨xs,x,hq,hx⟩:=hg;obtain⟨its,rv,p,hz⟩:=DP hq;obtain⟨u,hu,ru⟩:=rv.get hx;obtain⟨f0,f1,f2,f3,f4,f5⟩:=FW it;refine wpAny_pyNext_list_item st p.isList (x:=u) (by simpa using hu) fun h' aW sb=>?_
  have I1:Inv X pins σ H {s with heap:=h'}:=I.turned (t':=s.toks) (fun b o hb e=>(Pa b).trans e) f0 f1 f3 f4 f5;obtain⟨o,e,c,d⟩:=id aW;exact⟨u,rfl,xq (s:={s with heap:=h'}) e c d (AN) ⟨x,H,I1,ru,⟨rfl,fun ys hy=>by rw[I.um hy hq];exact hx⟩,aW,fun b hb=>(FK b).1⟩⟩
 done:=by
  intro X hP hw hK hc i pins s σ H E I hf st hg;subst hP hw hK;obtain⟨xs,hq,hx⟩:=hg;obtain⟨its,rv,p,hz⟩:=DP hq;obtain⟨f0,f1,f2,f3,f4,f5⟩:=FW it;have hl:=rv.length;exact wpAny_pyNext_list_end Gp st p.isList (by simp;omega) fun h' eb=>⟨rfl,MZ f5⟩
 self:=fun _ _ _ _ _ st h=>wpAny_pyIter_listiter st h
theorem adl{K:PySem.W.Frag} (it) (lo) (n):Turn P w K tg (Nf n) [it] it (fun i h=>IsRangeIter h it (lo+(i:Nat)*1) ((n:Int)-(i:Nat)) 1) where
 mem:=AA
 obj:=fun i h st b hb=>by
  have e:b=it:=by simpa using hb
  subst e;exact⟨_,st,fun v z=>by
   have z':Data.fields _=Data.cell v:=z;cases z'⟩
 keep:=fun i h h' st k=>k it (AA) _ st
 item:=by
  intro X hP hw hK hc i pins s σ H E I hf st hg;subst hP hw hK;obtain⟨f0,f1,f2,f3,f4,f5⟩:=FW it;have W:=wO lo 1 n;refine W.item i s _ _ hg st fun v h' tk hv aW kk=>?_
  obtain⟨t,rfl⟩:=hv;have I1:Inv X pins σ H {s with heap:=h',toks:=tk}:=I.turned (fun b o hb e=>kk b o (by simpa using hb) e) f0 f1 f3 f4 f5;refine⟨_,rfl,xq (s:={s with heap:=h',toks:=tk}) (n:="range_iterator") aW rfl rfl (AN) ⟨.int (lo+i),H,I1,⟨t,?_⟩,⟨rfl,rfl⟩,aW,fun b hb=>(FK b).1⟩⟩;rw[Int.mul_one]
 done:=by
  intro X hP hw hK hc i pins s σ H E I hf st hg;subst hP hw hK;obtain⟨f0,f1,f2,f3,f4,f5⟩:=FW it;exact wpAny_pyNext_range_end Gp st (by have:n≤i:=hg;omega) fun h' eb=>⟨rfl,MZ f5⟩
 self:=fun _ _ _ _ _ st h=>ant h
section
variable{X:Cx}{tg:Expr}
def aaY(K:PySem.W.Frag)(tl:TE):TI:=fun σ H R=>tl σ H fun x H1=>∃a,x= .ref a∧(∃xs,gF K H1 a xs)∧R kZ H1
theorem amz(hl:PE X l tl):PI X tg l (aaY X.K tl):=by
 intro pins s σ H R I h;refine cU nr fun v s1 ⟨x,H1,I1,r1,q1⟩=>?_
 obtain⟨a,e,⟨xs,hq⟩,q⟩:=q1;subst e;cases r1;obtain⟨its,rv,p,hz⟩:=I1.list hq;refine wpAny_pyIter_list p.isList ?_;refine⟨s1.heap.objs.size,[s1.heap.objs.size],_,_,H1,rfl,I1.kept (t':=s1.toks) fun b o e=>BL e,aev a _,⟨_,Heap.get?_push_size _ rfl,rfl,rfl⟩,fun b hb=>?_,q⟩;have e:b=s1.heap.objs.size:=by simpa using hb
 subst e;exact Z7 Bj
theorem alW{R}{lo hi:Int}{t:Tok}(I:Inv X pins σ H s)(h1:-(2^62)≤lo)(h2:lo<2^62)(h3:-(2^62)≤hi)(h4:hi<2^62)
  (q:R (Nf (hi-lo).toNat) H):wpAny Ak X.A (pyIter (.ref s.heap.objs.size)) (pO R) E {s with heap:=s.heap.push {cls:= .type "range",data:= .fields #[.int lo t, .int hi u, .int 1 v]},toks:=tk}:=by
 refine wpAny_pyIter_range (IsRange.new ..) (small_one h1 h2 h3 h4) ?_;have I1:Inv X pins σ H {s with heap:=s.heap.push {cls:= .type "range",data:= .fields #[.int lo t, .int hi u, .int 1 v]},toks:=tk}:=I.kept fun b o e=>BL e
 refine⟨(s.heap.push {cls:= .type "range",data:= .fields #[.int lo t, .int hi u, .int 1 v]}).objs.size,[(s.heap.push {cls:= .type "range",data:= .fields #[.int lo t, .int hi u, .int 1 v]}).objs.size],_,_,H,rfl,
  I1.kept (t':=tk) fun b o e=>BL e,adl _ lo (hi-lo).toNat,?_,fun b hb=>?_,q⟩
 ·have e1:lo+((0:Nat):Int)*1=lo:=AA;have e2:(((hi-lo).toNat:Nat):Int)-((0:Nat):Int)=Builtin.Range.rangeSize lo hi 1:=by rw[rangeSize_one];split<;>omega
  show IsRangeIter _ _ (lo+((0:Nat):Int)*1) ((((hi-lo).toNat:Nat):Int)-((0:Nat):Int)) 1;rw[e1,e2];exact Heap.get?_push_size _ rfl
 ·have e:b=(s.heap.push {cls:= .type "range",data:= .fields #[.int lo t, .int hi u, .int 1 v]}).objs.size:=by simpa using hb
  subst e;exact Z7 Bj
def aqd(ta:TA):TI:=fun σ H R=>ta σ H fun vs H1=>∃j:Int,vs=[.int j]∧-(2^62)≤j∧j<2^62∧R (M8 0 j.toNat) H1
theorem abh{a}{ta}{p pos}(hg:Gl X "range")(hm:X.mg "range"=none)(ha:PA X [a] ta)(hs:starEach [a] X.env=[(false,eval a X.env)]:=by rfl):PI X tg (.Call (.Name "range" p) [a] [] pos) (aqd ta):=by
 intro pins s σ H R I h;refine Call_ (jE I hg hm boot_range (PyProof.Rows.callWith_type1 (cU JJ fun us s1 ⟨vs,H1,I1,r1,q1⟩=>?_) hs rfl));obtain⟨j,e,q1,q2,q⟩:=q1;subst e;cases r1 with
 |cons r rr=>
  cases rr;obtain⟨t,rfl⟩:=r;exact call_range_1 (alW I1 DH (by omega) q1 q2 (by simpa using q))
def anp(wi:TI)(g:TG)(tb:TS):TS:=fun D σ H=>wi σ H fun J H1=>∃W:Nat→Nat→St→Hp→Prop,(∃m,Ro H1)∧∀i m σ H,W i m σ H→
 (J.stop i H∧D.nx σ H)∨(J.go i H∧∃N:St→Hp→Prop,(∀bK H',N bK H'→∃m',m'<m∧W (i+1) m' bK H')∧∀x H',J.JL i H x H'→g x σ H' fun f6 H2=>tb {D with nx:=N,ct:=N,bk:=D.nx} f6 H2)
def uv(fp:List Addr)(h:Heap):List (Addr×Obj):=fp.filterMap fun b=>(h.get? b).map fun o=>(b,o)
theorem ik{h}{b}(hb:b∈fp)(e:h.get? b=some o):(b,o)∈uv fp h:=Yv ⟨b,hb,by rw[e];rfl⟩
theorem aoR{p}(hp:p∈uv fp h):p.1∈fp∧h.get? p.1=some p.2:=by
 obtain⟨b,hb,e⟩:=YE hp;cases q:h.get? b with
 |none=>rw[q]at e;cases e
 |some o=>
  rw[q]at e;have e':(b,o)=p:=Aw e;subst e';exact⟨hb,q⟩
theorem Inv.pinned{fp}(I:Inv X pins σ H s)(hf:∀b∈fp,IU H)(ho:∀b∈fp,∃o,s.heap.get? b=some o∧∀v,o.data≠ .cell v):Inv X (pins++uv fp s.heap) σ H s:=
 I.Dp fun p hp=>(K2 hp).elim (fun z=>Og (Cn z)) fun z=>by
  obtain⟨hb,e⟩:=aoR z;obtain⟨f0,f1,f2,_⟩:=FK p.1;obtain⟨o,e',d⟩:=ho p.1 hb;rw[e]at e';cases e';exact⟨e,f0,f1,f2,d⟩
theorem Inv.mJ(I:Inv X (pins++pl) σ H s):Inv X pins σ H s:=I.Dp fun p hp=>Og (Cn (CW hp))
theorem bp{iter}{body}{wi}{g}{tb}{pos}(hp:PassesOwn (VC X.w) X.A X.env X.xe)(hc:X.calm=true)(hi:PI X tg iter wi)(hg:PG X tg g)(hb:EE X body tb)
  (hs:∀x,foldedSetIterable iter X.env x=pure x:=by intro _;rfl):PS X (.For tg iter body [] pos) (anp wi g tb):=by
 intro pins s σ H D I h;refine wpAny_For (cU Xe fun v s1 h1=>cU h1 fun Vn s2 h2=>?_) hs;obtain⟨it,fp,tn,J,H2,e,I2,T,eh,f2,W,⟨m0,w0⟩,turn⟩:=h2;subst e;have BM:∀{H':Hp},(∀b∈fp,H' b=none)→∀b∈fp,i4 X pins H' b:=fun hn b hb=>⟨hn b hb,(f2 b hb).2⟩
 refine codeAny_forLoop_any (fun n s'=>∃i bK H',Inv X pins bK H' s'∧tn i s'.heap∧(∀b∈fp,H' b=none)∧W i n bK H') ?_ m0 ⟨0,σ,H2,I2,eh,fun b hb=>(f2 b hb).1,w0⟩;rintro n s3 ⟨i,Gz,H3,I3,GB,Ph,w3⟩;rcases turn i n Gz H3 w3 with⟨stop,qn⟩|⟨go,N,hN,step⟩
 ·refine wpAny_passesOwn hp (cU (T.done X rfl rfl rfl hc i pins s3 Gz H3 X.xe I3 (BM Ph) GB stop) fun r s4 ⟨hr,I4⟩=>?_);subst hr;exact Yh ⟨Gz,H3,I4,qn⟩
 ·refine wpAny_passesOwn hp (cU (T.item X rfl rfl rfl hc i pins s3 Gz H3 X.xe I3 (BM Ph) GB go) fun r s4 ⟨u,hr,h4⟩=>?_);subst hr;refine wpAny_passesOwn hp (cU h4 fun _ s5 ⟨x,H5,I5,r5,y5,Pj,To⟩=>?_);have aez:=I5.pinned (BM To) (T.obj _ _ Pj);refine wpAny_passesOwn hp (cU (hg _ s5 Gz H5 x u _ aez r5 (step x H5 y5)) fun _ s6 ⟨aeY,H6,I6,q6⟩=>?_);refine wpAny_passesOwn hp (cU (hb _ s6 aeY H6 _ I6 q6) fun f s7 q7=>?_);have again:∀{GC:St}{H7:Hp},Inv X (pins++uv fp s5.heap) GC H7 s7→N GC H7→∃m,m<n∧∃i bK H',Inv X pins bK H' s7∧tn i s7.heap∧(∀b∈fp,H' b=none)∧W i m bK H':=fun{GC H7} I7 n7=>by
   obtain⟨m',hm,w7⟩:=hN GC H7 n7;refine⟨m',hm,i+1,GC,H7,I7.mJ,T.keep _ _ _ Pj fun b hb o e=>(ye (b,o)).1,fun b hb=>?_,w7⟩;obtain⟨o,e,d⟩:=T.obj _ _ Pj b hb;exact(ye (b,o)).2.1
  cases f with
  |next=>obtain⟨GC,H7,I7,n7⟩:=q7;exact again I7 n7
  |cont=>obtain⟨GC,H7,I7,n7⟩:=q7;exact again I7 n7
  |brk=>obtain⟨GC,H7,I7,q7⟩:=q7;exact⟨GC,H7,I7.mJ,q7⟩
  |ret v=>obtain⟨x7,GC,H7,I7,r7,q7⟩:=q7;exact⟨x7,GC,H7,I7.mJ,r7,q7⟩
end
theorem br{K:PySem.W.Frag}{a:Addr}{xs:List V}{g:TG}{tb:TS}{D:Ends}{σ}{H}(Pv:Nat→St→Hp→Prop)(h0:Pv 0 σ H)(hl:∀i σ H,i≤xs.length→Pv i σ H→gF K H a xs)
  (hs:∀i x σ H,xs[i]?=some x→Pv i σ H→g x σ H fun f6 H2=>tb {D with nx:=Pv (i+1),ct:=Pv (i+1),bk:=D.nx} f6 H2) (hd:∀σ H,Pv xs.length σ H→D.nx σ H):
  ∃W:Nat→Nat→St→Hp→Prop,(∃m,Ro H)∧∀i m σ H,W i m σ H→
   ((Pg K a).stop i H∧D.nx σ H)∨((Pg K a).go i H∧∃N:St→Hp→Prop,(∀bK H',N bK H'→∃m',m'<m∧W (i+1) m' bK H')∧∀x H',(Pg K a).JL i H x H'→g x σ H' fun f6 H2=>tb {D with nx:=N,ct:=N,bk:=D.nx} f6 H2):=by
 refine⟨fun i m σ H=>m=xs.length-i∧i≤xs.length∧Pv i σ H,⟨xs.length,AA,Nat.zero_le _,h0⟩,?_⟩;rintro i m σ H ⟨rfl,hi,p⟩;have q:=hl i σ H hi p;by_cases iO:i<xs.length
 ·refine .inr ⟨⟨xs,xs[i],q,by simp[iO]⟩,Pv (i+1),fun bK H' p'=>⟨xs.length-(i+1),by omega,rfl,iO,p'⟩,fun x H' y=>?_⟩;obtain⟨e,y⟩:=y;subst e;exact hs i x σ _ (y xs q) p
 ·have e:i=xs.length:=by omega
  subst e;exact .inl ⟨⟨xs,q,Nat.le_refl _⟩,Td p⟩
theorem gG{lo:Int}{n:Nat}{g:TG}{tb:TS}{D:Ends}{σ}{H}(Pv:Nat→St→Hp→Prop)(h0:Pv 0 σ H)
  (hs:∀i σ H,i<n→Pv i σ H→g (.int (lo+i)) σ H fun f6 H2=>tb {D with nx:=Pv (i+1),ct:=Pv (i+1),bk:=D.nx} f6 H2) (hd:∀σ H,Pv n σ H→D.nx σ H):
  ∃W:Nat→Nat→St→Hp→Prop,(∃m,Ro H)∧∀i m σ H,W i m σ H→
   ((Nf n).stop i H∧D.nx σ H)∨((Nf n).go i H∧∃N:St→Hp→Prop,(∀bK H',N bK H'→∃m',m'<m∧W (i+1) m' bK H')∧∀x H',(Nf n).JL i H x H'→g x σ H' fun f6 H2=>tb {D with nx:=N,ct:=N,bk:=D.nx} f6 H2):=by
 refine⟨fun i m σ H=>m=n-i∧i≤n∧Pv i σ H,⟨n,AA,Nat.zero_le _,h0⟩,?_⟩;rintro i m σ H ⟨rfl,hi,p⟩;by_cases iO:i<n
 ·refine .inr ⟨iO,Pv (i+1),fun bK H' p'=>⟨n-(i+1),by omega,rfl,iO,p'⟩,fun x H' y=>?_⟩;obtain⟨e,y⟩:=y;subst e y;exact hs i σ _ iO p
 ·have e:i=n:=by omega
  subst e;exact .inl ⟨Nat.le_refl _,Td p⟩
abbrev R2:=V→V→Hp→VK→Prop
def rm(X:Cx)(f:Value→Value→Sem Value)(r:R2):Prop:=
 ∀(pins:List (Addr×Obj))(s:Shared)(σ:St)(H:Hp)(x y:V)(v u:Value)(Q:VK),Inv X pins σ H s→RelV x v→RelV y u→r x y H Q→
  wpAny Ak X.A (f v u) (DR Q) X.xe s
def Vp(X:Cx)(f:Value→Sem Value)(r:V→Hp→VK→Prop):Prop:=
 ∀(pins:List (Addr×Obj))(s:Shared)(σ:St)(H:Hp)(x:V)(v:Value)(Q:VK),Inv X pins σ H s→RelV x v→r x H Q→
  wpAny Ak X.A (f v) (DR Q) X.xe s
def jF(X:Cx)(f:Value)(r:List V→Hp→VK→Prop):Prop:=
 ∀(pins:List (Addr×Obj))(s:Shared)(σ:St)(H:Hp)(xs:List V)(us:List Value)(Q:VK),Inv X pins σ H s→Vals xs us→r xs H Q→
  wpAny Ak X.A (call f us) (DR Q) X.xe s
def ama(r:R2)(ta tb:TE):TE:=fun σ H Q=>ta σ H fun x H1=>tb σ H1 fun y H2=>r x y H2 Q
def afX(r:V→Hp→VK→Prop)(ta:TE):TE:=fun σ H Q=>ta σ H fun x H1=>r x H1 Q
inductive rI(C:Int→Int→Prop)(g:Int→Int→V)(x:V)(y:V)(H:Hp)(Q:VK):Prop
 |mk (i) (j) (_:x= .int i) (_:y= .int j) (_:C i j) (_:Q Fn H):rI C g x y H Q
inductive JN(g:Int→Int→V)(x:V)(y:V)(H:Hp)(Q:VK):Prop
 |mk (i) (j) (_:x= .int i) (_:y= .int j) (_:Q Fn H):JN g x y H Q
inductive rU(g:Int→V)(x:V)(H:Hp)(Q:VK):Prop
 |mk (i) (_:x= .int i) (_:Q (g i) H):rU g x H Q
section
variable{X:Cx}{a b c:Expr}{ta tb tc:TE}{pos:Pos}
theorem M9(ha:PE X a ta)(hb:PE X b tb){pins:List (Addr×Obj)}{s:Shared}{σ:St}{H:Hp}{R:V→V→Hp→Prop}(I:Inv X pins σ H s)
  (h:ta σ H fun x H1=>tb σ H1 fun y H2=>R x y H2) {Q:Value→Shared→Prop} {f:Value→Value→Sem Value}
  (hf:∀v u s2 x y H2,Inv X pins σ H2 s2→RelV x v→RelV y u→R x y H2→wpAny Ak X.A (f v u) Q X.xe s2):
  wpAny Ak X.A (eval a X.env) (fun v cf=>zA cf) X.xe s:=by
 refine cU G7 fun v s1 ⟨x,H1,I1,r1,q1⟩=>?_
 refine cU pM fun u s2 ⟨y,H2,I2,r2,q2⟩=>?_
 exact hf v u s2 x y H2 I2 r1 r2 q2
theorem aH{op}{r}(ho:rm X (binaryOp op) r)(ha:PE X a ta)(hb:PE X b tb):PE X (.BinOp a op b pos) (Xj r):=by
 intro pins s σ H Q I h;exact wpAny_BinOp (M9 ha hb I h fun v u s2 x y H2 I2 rx ry q=>vk x y v u Q q)
theorem sY{op}{r}(ho:Vp X (unaryOp op) r)(ha:PE X a ta):PE X (.UnaryOp op a pos) (afX r ta):=by
 intro pins s σ H Q I h;exact UnaryOp_ (cU G7 fun v s1 ⟨x,H1,I1,r1,q1⟩=>ho pins s1 σ H1 x v Q I1 r1 q1)
theorem Vq{f}{C}{g:Int→Int→Int}
  (rule:∀(i j:Int)(t u:Tok)(s:Shared)(Q:Value→Shared→Prop)(E:Value→Shared→Prop),C i j→Q (.int Fn s.toks) {s with toks:=s.toks+1}→wpAny Ak X.A sF Q E s):
  rm X f (rI C fun i j=> .int Fn):=by
 intro pins s σ H x y v u Q I rx ry h;obtain⟨i,j,rfl,rfl,hc,q⟩:=h;obtain⟨t,rfl⟩:=rx;obtain⟨t',rfl⟩:=ry;exact rule i j t t' s _ _ hc ⟨.int Fn,H,I.tok _,⟨_,rfl⟩,q⟩
theorem QI{f}{g:Int→Int→Int}
  (rule:∀(i j:Int)(t u:Tok)(s:Shared)(Q:Value→Shared→Prop)(E:Value→Shared→Prop),Q (.int Fn s.toks) {s with toks:=s.toks+1}→wpAny Ak X.A sF Q E s):
  rm X f (JN fun i j=> .int Fn):=by
 intro pins s σ H x y v u Q I rx ry h;obtain⟨i,j,rfl,rfl,q⟩:=h;obtain⟨t,rfl⟩:=rx;obtain⟨t',rfl⟩:=ry;exact rule i j t t' s _ _ ⟨.int Fn,H,I.tok _,⟨_,rfl⟩,q⟩
theorem JO{f}{g:Int→Int→Bool}
  (rule:∀(i j:Int)(t u:Tok)(s:Shared)(Q:Value→Shared→Prop)(E:Value→Shared→Prop),Q (.bool Fn) s→wpAny Ak X.A sF Q E s):
  rm X f (JN fun i j=> .bl Fn):=by
 intro pins s σ H x y v u Q I rx ry h;obtain⟨i,j,rfl,rfl,q⟩:=h;obtain⟨t,rfl⟩:=rx;obtain⟨t',rfl⟩:=ry;exact rule i j t t' s _ _ ⟨.bl Fn,H,I,rfl,q⟩
def M_(i j:Int):Prop:=0<j∧j<1073741824
def Na(i j:Int):Prop:=(-(2^64)<i∧i<2^64)∨(-(2^64)<j∧j<2^64)
theorem Na.ok(h:Na i j):IntMulOk i j:=by
 rcases h with⟨h1,h2⟩|⟨h1,h2⟩
 ·exact .of_left (aqL h2)
 ·exact .of_right (aqL h2)
theorem bB:rm X (binaryOp .Add) (JN fun i j=> .int (i+j)):=QI fun _ _ _ _ _ _ _ q=>add_int q
theorem bJ:rm X (binaryOp .Sub) (JN fun i j=> .int (i-j)):=QI fun _ _ _ _ _ _ _ q=>sub_int q
theorem lB:rm X (binaryOp .Mult) (rI Na fun i j=> .int (i*j)):=Vq fun _ _ _ _ _ _ _ hc q=>mul_int q hc.ok
theorem eK:rm X (binaryOp .FloorDiv) (rI M_ fun i j=> .int (i/j)):=Vq fun i j _ _ _ _ _ hc q=>by
 have h1:(0:Int)<j:=hc.1;have h2:j<1073741824:=hc.2;exact floordiv_int DH (by rw[Int.fdiv_eq_ediv_of_nonneg i DH];exact q) (.inl (PyProof.noPylong_small DH))
theorem cn:rm X (binaryOp .Mod) (rI (fun _ j=>0<j) fun i j=> .int (i%j)):=Vq fun i j _ _ _ _ _ hc q=>by
 have h1:(0:Int)<j:=hc;exact mod_int' DH (by rw[Int.fmod_eq_emod_of_nonneg i DH];exact q)
theorem aon{f}{g:Int→Int}
  (rule:∀(i:Int)(t:Tok)(s:Shared)(Q:Value→Shared→Prop)(E:Value→Shared→Prop),Q (.int (g i) s.toks) {s with toks:=s.toks+1}→wpAny Ak X.A (f (.int i t)) Q E s):
  Vp X f (rU fun i=> .int (g i)):=by
 intro pins s σ H x v Q I rx h;obtain⟨i,rfl,q⟩:=h;obtain⟨t,rfl⟩:=rx;exact rule i t s _ _ ⟨.int (g i),H,I.tok _,⟨_,rfl⟩,q⟩
theorem mK:Vp X (unaryOp .USub) (rU fun i=> .int (-i)):=aon fun _ _ _ _ _ q=>neg_int q
end
def QJ:V→V→Bool
 | .de, .de=>true| .de, .int _=>true| .int _, .de=>true| .de, .bl _=>true| .bl _, .de=>true| .de, .str _=>true| .str _, .de=>true
 | .int _, .int _=>true| .bl _, .bl _=>true| .str _, .str _=>true| .EC _, .EC _=>true
 | .int _, .str _=>true| .str _, .int _=>true| .bl _, .str _=>true| .str _, .bl _=>true
 | _,_=>false
def ahI:R2:=fun x y H Q=>QJ x y=true∧Q (.bl (decide (x=y))) H
def apb:R2:=fun x y H Q=>QJ x y=true∧Q (.bl (!decide (x=y))) H
theorem acG:decide (V.int i=V.int j)=(i==j):=by
 rw[Bool.eq_iff_iff];simp
theorem GD:decide (V.bl i=V.bl j)=(i==j):=by
 rw[Bool.eq_iff_iff];simp
theorem Du:decide (V.str i=V.str j)=(i==j):=by
 rw[Bool.eq_iff_iff];simp
theorem aak:decide (V.EC i=V.EC j)=(i.toList==j.toList):=by
 rw[Bool.eq_iff_iff];cases i;cases j;simp
section
variable{X:Cx}{a b c:Expr}{ta tb tc:TE}{pos:Pos}
theorem bQ(I:Inv X pins σ H s)(q:Q (.bl k) H)(e:k=k'):EP X pins σ Q (.bool k') s:=by
 subst e;exact⟨.bl k,H,I,rfl,q⟩
theorem iP:rm X (compareOp .Eq) ahI:=by
 intro pins s σ H x y v u Q I rx ry h;obtain⟨hs,q⟩:=h;cases x with
 |de=>
  cases rx;cases y with
  |de=>cases ry;exact PySem.EqNone.eq_none_none CP
  |bl j=>cases ry;exact PySem.EqNone.eq_none_bool CP
  |int j=>obtain⟨t',rfl⟩:=ry;exact PySem.EqNone.eq_none_int CP
  |str j=>obtain⟨t',rfl⟩:=ry;exact PySem.EqNone.eq_none_str CP
  | _=>exact Dk (show false=true from hs)
 |bl i=>
  cases rx;cases y with
  |de=>cases ry;exact PySem.EqNone.eq_bool_none CP
  |bl j=>cases ry;exact eq_bool (J3 GD)
  |str j=>obtain⟨t',rfl⟩:=ry;exact PySem.EqMixed.eq_bool_str CP
  | _=>exact Dk (show false=true from hs)
 |int i=>
  obtain⟨t,rfl⟩:=rx;cases y with
  |de=>cases ry;exact PySem.EqNone.eq_int_none CP
  |int j=>obtain⟨t',rfl⟩:=ry;exact eq_int (J3 acG)
  |str j=>obtain⟨t',rfl⟩:=ry;exact PySem.EqMixed.eq_int_str CP
  | _=>exact Dk (show false=true from hs)
 |str i=>
  obtain⟨t,rfl⟩:=rx;cases y with
  |de=>cases ry;exact PySem.EqNone.eq_str_none CP
  |bl j=>cases ry;exact PySem.EqMixed.eq_str_bool CP
  |int j=>obtain⟨t',rfl⟩:=ry;exact PySem.EqMixed.eq_str_int CP
  |str j=>obtain⟨t',rfl⟩:=ry;exact eq_str (J3 Du)
  | _=>exact Dk (show false=true from hs)
 |EC i=>
  obtain⟨t,rfl⟩:=rx;cases y with
  |EC j=>obtain⟨t',rfl⟩:=ry;exact PySem.W.eq_bytes (J3 aak)
  | _=>exact Dk (show false=true from hs)
 | _=>cases y<;>exact Dk (show false=true from hs)
theorem Ae:rm X (compareOp .NotEq) apb:=by
 intro pins s σ H x y v u Q I rx ry h;obtain⟨hs,q⟩:=h;cases x with
 |de=>
  cases rx;cases y with
  |de=>cases ry;exact PySem.EqNone.ne_none_none CP
  |bl j=>cases ry;exact PySem.EqNone.ne_none_bool CP
  |int j=>obtain⟨t',rfl⟩:=ry;exact PySem.EqNone.ne_none_int CP
  |str j=>obtain⟨t',rfl⟩:=ry;exact PySem.EqNone.ne_none_str CP
  | _=>exact Dk (show false=true from hs)
 |bl i=>
  cases rx;cases y with
  |de=>cases ry;exact PySem.EqNone.ne_bool_none CP
  |bl j=>cases ry;exact ne_bool (J3 (Eu not GD))
  |str j=>obtain⟨t',rfl⟩:=ry;exact PySem.EqMixed.ne_bool_str CP
  | _=>exact Dk (show false=true from hs)
 |int i=>
  obtain⟨t,rfl⟩:=rx;cases y with
  |de=>cases ry;exact PySem.EqNone.ne_int_none CP
  |int j=>obtain⟨t',rfl⟩:=ry;exact ne_int (J3 (Eu not acG))
  |str j=>obtain⟨t',rfl⟩:=ry;exact PySem.EqMixed.ne_int_str CP
  | _=>exact Dk (show false=true from hs)
 |str i=>
  obtain⟨t,rfl⟩:=rx;cases y with
  |de=>cases ry;exact PySem.EqNone.ne_str_none CP
  |bl j=>cases ry;exact PySem.EqMixed.ne_str_bool CP
  |int j=>obtain⟨t',rfl⟩:=ry;exact PySem.EqMixed.ne_str_int CP
  |str j=>obtain⟨t',rfl⟩:=ry;exact ne_str (J3 (Eu not Du))
  | _=>exact Dk (show false=true from hs)
 |EC i=>
  obtain⟨t,rfl⟩:=rx;cases y with
  |EC j=>obtain⟨t',rfl⟩:=ry;exact PySem.W.ne_bytes (J3 (Eu not aak))
  | _=>exact Dk (show false=true from hs)
 | _=>cases y<;>exact Dk (show false=true from hs)
theorem j9:rm X (compareOp .Lt) (JN fun i j=> .bl (decide (i<j))):=JO fun _ _ _ _ _ _ _ q=>lt_int q
theorem Dx:rm X (compareOp .LtE) (JN fun i j=> .bl (decide (i≤j))):=JO fun _ _ _ _ _ _ _ q=>le_int q
theorem oC:rm X (compareOp .Gt) (JN fun i j=> .bl (decide (j<i))):=JO fun _ _ _ _ _ _ _ q=>gt_int q
theorem Dy:rm X (compareOp .GtE) (JN fun i j=> .bl (decide (j≤i))):=JO fun _ _ _ _ _ _ _ q=>ge_int q
theorem aU (b) (h:op≠ .In:=by decide) (h2:op≠ .NotIn:=by decide):behindInMarks op b=false:=by
 have e1:(op==CmpOp.In)=false:=by cases op<;>first|rfl|exact EV h
 have e2:(op==CmpOp.NotIn)=false:=by cases op<;>first|rfl|exact EV h2
 cases b<;>simp[behindInMarks,e1,e2]
theorem aah{op}{r}(ho:rm X (compareOp op) r)(ha:PE X a ta)(hb:PE X b tb)(hm:behindInMarks op b=false):PE X (.Compare a [op] [b] pos) (Xj r):=by
 intro pins s σ H Q I h;exact wpAny_Compare1 (M9 ha hb I h fun v u s2 x y H2 I2 rx ry q=>vk x y v u Q q) hm
def afO(t:TE):TT:=fun σ H Q=>t σ H fun x H'=>∃k,x= .bl k∧Q k H'
theorem aS{op}{r}(ho:rm X (compareOp op) r)(ha:PE X a ta)(hb:PE X b tb)(hm:behindInMarks op b=false):PT X (.Compare a [op] [b] pos) (afO (Xj r)):=by
 intro pins s σ H Q I h;refine wpAny_isTrue_Compare1 (cU G7 fun v s1 ⟨x,H1,I1,r1,q1⟩=>cU pM fun u s2 ⟨y,H2,I2,r2,q2⟩=>
  cU (ho pins s2 σ H2 x y v u _ I2 r1 r2 q2) fun c s3 ⟨z,H3,I3,r3,k,e,q3⟩=>?_) hm
 subst e;cases r3;exact LH ⟨H3,I3,q3⟩
theorem rn:(sizeLine:Nat)<2^63:=by rw[sizeLine_eq];decide
theorem oR:rm X (binaryOp .Add) (fun x y H Q=>∃i j,x= .str i∧y= .str j∧i.length+j.length≤sizeLine∧Q (.str (i++j)) H):=by
 intro pins s σ H x y v u Q I rx ry h;obtain⟨i,j,rfl,rfl,hz,q⟩:=h;obtain⟨t,rfl⟩:=rx;obtain⟨t',rfl⟩:=ry;exact add_str (fun t' tk=>⟨.str (i++j),H,I.tok _,⟨_,rfl⟩,q⟩) hz
theorem vals1(r:Vals [x] us):∃u,us=[u]∧RelV x u:=by
 cases r with
 |cons r1 r2=>cases r2;exact⟨_,rfl,r1⟩
theorem vals2(r:Vals [x,y] us):∃u w',us=[u,w']∧RelV x u∧RelV y w':=by
 cases r with
 |cons r1 r2=>
  cases r2 with
  |cons r3 r4=>cases r4;exact⟨_,_,rfl,r1,r3⟩
theorem akK(hc:X.calm=true):jF X (.builtin "max") (fun xs H Q=>∃i j,xs=[.int i, .int j]∧Q (.int (if j>i then j else i)) H):=by
 intro pins s σ H xs us Q I r h;obtain⟨i,j,rfl,q⟩:=h;obtain⟨u,w',rfl,⟨t,rfl⟩,⟨t',rfl⟩⟩:=vals2 r;refine max_two_ints Gp fun h' tk k=>⟨_,H,I.kept k,?_,q⟩
 by_cases hj:j>i
 ·rw[A7 hj,A7 hj];exact⟨_,rfl⟩
 ·rw[A6 hj,A6 hj];exact⟨_,rfl⟩
theorem alo(hc:X.calm=true):jF X (.builtin "min") (fun xs H Q=>∃i j,xs=[.int i, .int j]∧Q (.int (if j<i then j else i)) H):=by
 intro pins s σ H xs us Q I r h;obtain⟨i,j,rfl,q⟩:=h;obtain⟨u,w',rfl,⟨t,rfl⟩,⟨t',rfl⟩⟩:=vals2 r;refine min_two_ints Gp fun h' tk k=>⟨_,H,I.kept k,?_,q⟩
 by_cases hj:j<i
 ·rw[A7 hj,A7 hj];exact⟨_,rfl⟩
 ·rw[A6 hj,A6 hj];exact⟨_,rfl⟩
theorem aeS:jF X (.type "int") (fun xs H Q=>(∃i,xs=[.int i]∧Q (.int i) H)∨∃k,xs=[.bl k]∧Q (.int (if k then 1 else 0)) H):=by
 intro pins s σ H xs us Q I r h;rcases h with⟨i,rfl,q⟩|⟨k,rfl,q⟩
 ·obtain⟨u,rfl,t,rfl⟩:=vals1 r;exact call_int_int ⟨.int i,H,I,⟨_,rfl⟩,q⟩
 ·obtain⟨u,rfl,r1⟩:=vals1 r;cases r1;exact call_int_bool ⟨.int (if k then 1 else 0),H,I.tok _,⟨_,rfl⟩,q⟩
end
structure BN(h:Heap)(x dx C:Addr)(mA:Str→Option Value):Prop where
 obj:h.get? x=some (pT C)
 ns:h.Ns1 dx mA
 ne:dx≠x
theorem ark{h:Heap}(n:h.Ns1 dx mA):∃od,h.get? dx=some od∧∀name,PySem.W.lookIn name od=some (mA name):=by
 obtain⟨o,es,ep,ho,hd,hk,_,hm⟩:=n;refine⟨o,ho,fun name=>?_⟩;have e:=hm name;unfold nsFind findBy at e;rw[←Array.find?_toList]at e;unfold PySem.W.lookIn;rw[hd];dsimp only;split
 ·rename_i y q
  rw[q]at e;exact Eu some e
 ·rename_i q
  rw[q]at e;have a:es.toList.any (·.refKey)=false:=by
   rw[List.any_eq_false];intro y hy;obtain⟨z,t,p5⟩:=hk y (Array.mem_toList_iff.mp hy);simp[DictEntry.refKey,p5]
  have a':¬es.toList.any (·.refKey)=true:=by rw[a];exact Bool.false_ne_true
  rw[A6 a'];exact Eu some e
theorem BN.look(I:BN h x dx C mA):∃od,PySem.W.InstAt h x (pT C) C (some od)∧∀name,PySem.W.lookIn name od=some (mA name):=
 let ⟨od,ho,hl⟩:=ark I.ns
 ⟨od,⟨I.obj,rfl,rfl,ho⟩,hl⟩
section
variable{prog:Program}{w:World}{A:Around}{E:Value→Shared→Prop}{s:Shared}{K:PySem.W.Frag}{x dx C f:Addr}{mA:Str→Option Value}{name:Str}{v:Value}
theorem get_map(X:K.In s.heap)(I:BN s.heap x dx C mA)(hg:PySem.W.plainGet K C name=true)(hh:PySem.W.hasDictIn K C=true)
  (ha:PySem.W.findIn K (.ref C) name=some none) (hv:mA name=some v) (QL:PySem.W.handedIn v=true) (h:Q v {s with toks:=s.toks+1}):
  wpAny AR A (getAttr (.ref x) name expr) Q E s:=by
 obtain⟨od,J,hl⟩:=I.look;exact PySem.W.get_value X J (ZT hg).1 (PySem.W.findObj_own hh ha rfl (by rw[hl,hv])) QL h
theorem asV(X:K.In s.heap)(I:BN s.heap x dx C mA)(hg:PySem.W.plainGet K C name=true)
  (hf:PySem.W.findIn K (.ref C) name=some (some (.ref f))) (ht:PySem.W.isFn K (.ref f)=true) (hv:mA name=none) (h:Q (.ref f,[.ref x]) s):
  wpAny AR A (getMethod (.ref x) name pl) Q E s:=by
 obtain⟨od,J,hl⟩:=I.look;exact PySem.W.method_fn X J (ZT hg).1 (ZT hg).2 hf (Xr ht) (by show(PySem.W.lookIn name od).map (·.isSome)=some false;rw[hl,hv];rfl) h
theorem awU(X:K.In s.heap)(I:BN s.heap x dx C mA)
  (hs:PySem.W.findIn K (.ref C) "__setattr__"=some (some (.builtin "object.__setattr__"))) (hp:PySem.W.plainOver K C=true) (ht:PySem.W.takerIn K C name=some none) (hh:PySem.W.hasDictIn K C=true)
  (hw:PySem.Within mA ns) (hsz:ns.length≤sizeLine)
  (h:∀h',BN h' x dx C (fun y=>if y=name then some v else mA y)→Heap.SameBut dx s.heap h'→Q () {s with heap:=h',toks:=s.toks+2}):
  wpAny AR A (setAttr (.ref x) name v) Q E s:=by
 obtain⟨od,J,hl⟩:=I.look;refine PySem.W.set_plain X J hs (PySem.W.osa_open (s:={s with toks:=s.toks+1}) (r:=none) X J hp ht fun b=>?_);obtain⟨cd,hc,Pe⟩:=PySem.W.any_some hh;have hx:s.heap.get? x=some ⟨.ref C,some dx, .plain,#[]⟩:=I.obj;refine wpAny_bind (B2 (Ax (Ax (wpAny_loadPart hx (Ax (PySem.W.Looks.here (s:={s with toks:=s.toks+1}) (PySem.W.looks_clsIn X hc) ?_))))));rw[Pe];refine wpAny_pure (a:=some dx) (Ax Κ);refine wpAny_nsSet1 (s:={s with toks:=s.toks+1}) I.ns fun h' zT By=>?_
 obtain⟨oD,esD,epD,amX,apr,arE⟩:=zT.count (PySem.Within.cons name v hw);refine wpAny_bind (wpAny_lookBehind amX (by rw[apr];exact pastItsLine_dict (E3 arE (by rw[List.length_cons];omega))) ?_);exact B2 (h _ ⟨(By.2 _ (Ay I.ne)).trans I.obj,zT,I.ne⟩ By)
theorem aup{R}{vs}(X:K.In s.heap)(hm:PySem.W.makesIn K C=true)
  (hi:PySem.W.findIn K (.ref C) "__init__"=some (some (.ref f))) (hf:PySem.W.typeIn K (.ref f)=some (.type "function"))
  (h:codeAny AR (Q7 (.builtin "type.__call__" ⟨.ref C::vs,kw⟩)) (.call (.ref f) ⟨.ref (s.heap.objs.size+1)::vs,kw⟩) (PySem.W.InitBack (s.heap.objs.size+1) R)
   {s with heap:=(Hy PySem.W.emptyDict).push (Q_ C)}):
  codeAny AR A (.call (.ref C) ⟨vs,kw⟩) R s:=by
 obtain⟨hh,g,d,t,os⟩:=s;exact PySem.W.make_core (PySem.W.makes_of X hm) (PySem.W.looks_findIn X hi) (fun self=>PySem.W.bind_fn X self hf) (.inl rfl) h
end
def bE(f:Str)(v:V):List (Str×V)→List (Str×V)
 |[]=>[(f,v)]
 |(g,x)::r=>if g=f then(g,v)::r else(g,x)::bE f v r
theorem sZ(f g:_) (v):∀fs:List (Str×V),(Jz v).lookup g=if g=f then some v else fs.lookup g
 |[]=>by
  show List.lookup g [(f,v)]=_;by_cases h:g=f
  ·have hb:(g==f)=true:=beq_iff_eq.mpr h;simp only[List.lookup,hb,A7 h]
  ·have hb:(g==f)=false:=beq_eq_false_iff_ne.mpr h;simp only[List.lookup,hb,A6 h]
 |(k,x)::r=>by
  have ih:=sZ f g v r;rw[show bE f v ((k,x)::r)=(if k=f then(k,v)::r else(k,x)::bE f v r)from rfl];by_cases hk:k=f
  ·rw[A7 hk];by_cases h:g=k
   ·have hb:(g==k)=true:=beq_iff_eq.mpr h;simp only[List.lookup,hb,A7 (h.trans hk)]
   ·have hb:(g==k)=false:=beq_eq_false_iff_ne.mpr h;simp only[List.lookup,hb,A6 (fun e:g=f=>h (Xz hk.symm))]
  ·rw[A6 hk];by_cases h:g=k
   ·have hb:(g==k)=true:=beq_iff_eq.mpr h;simp only[List.lookup,hb,A6 (fun e:g=f=>hk (h.symm.trans e))]
   ·have hb:(g==k)=false:=beq_eq_false_iff_ne.mpr h;simp only[List.lookup,hb];exact ih
theorem rz (f) (v):∀fs:List (Str×V),f∈(Jz v).map (·.1)∧∀g,g∈fs.map (·.1)→g∈(Jz v).map (·.1)
 |[]=>⟨by simp[bE],fun g h=>by simp at h⟩
 |(k,x)::r=>by
  obtain⟨i1,i2⟩:=rz f v r;rw[show bE f v ((k,x)::r)=(if k=f then(k,v)::r else(k,x)::bE f v r)from rfl];by_cases hk:k=f
  ·rw[A7 hk];subst hk;exact⟨AA,fun g h=>by simpa using h⟩
  ·rw[A6 hk];refine⟨?_,fun g h=>?_⟩
   ·rw[List.map_cons];exact Ep i1
   ·rw[List.map_cons]at h⊢;rcases List.mem_cons.mp h with e|e
    ·exact List.mem_cons.mpr (.inl e)
    ·exact Ep (i2 g e)
theorem aY (f) (v):∀fs:List (Str×V),(Jz v).length≤fs.length+1
 |[]=>by simp[bE]
 |(k,x)::r=>by
  have ih:=aY f v r;rw[show bE f v ((k,x)::r)=(if k=f then(k,v)::r else(k,x)::bE f v r)from rfl];by_cases hk:k=f
  ·rw[A7 hk,List.length_cons,List.length_cons];omega
  ·rw[A6 hk,List.length_cons,List.length_cons];omega
theorem lz.some_of(r:lz (some v) o):∃u,o=some u∧RelV v u:=by
 cases o with
 |none=>exact(show False from r).elim
 |some u=>exact⟨u,rfl,r⟩
theorem lz.none_of(r:lz none o):o=none:=by
 cases o with
 |none=>rfl
 |some u=>exact(show False from r).elim
theorem aqk(r:RelV v u):PySem.W.handedIn u=true:=by
 cases v with
 |de=>cases(show u=Value.none from r);rfl
 |bl b=>cases(show u=Value.bool b from r);rfl
 |int i=>obtain⟨t,e⟩:=(show ∃t,u=Value.int i t from r);cases e;rfl
 |str x=>obtain⟨t,e⟩:=(show ∃t,u=Value.str x t from r);cases e;rfl
 |EC b=>obtain⟨t,e⟩:=(show ∃t,u=Value.bytes b t from r);cases e;rfl
 |Lz b=>obtain⟨t,e⟩:=(show ∃t,u=Value.float b t from r);cases e;rfl
 |ref a=>cases(show u=Value.ref a from r);rfl
 |ty n=>cases(show u=Value.type n from r);rfl
section
variable{P:Program}{w:World}{H H':Hp}{h h':Heap}{a C dx:Addr}{fs anS:List (Str×V)}
theorem arC(cc:mH P w H h)(e:H a=some (.ins C dx fs)):∃mA,BN h a dx C mA∧(∀f,pZ (mA f))∧PySem.Within mA (Ii (·.1))∧fs.length≤1000∧H dx=some (.own a):=by
 obtain⟨d,z,ne,ob,mA,n,r,q⟩:=(show dA P w H h a (.ins C dx fs)from cc a _ e)
 exact⟨mA,⟨ob,n,ne⟩,r,q,z,d⟩
end
structure x9(K:PySem.W.Frag)(C:Addr):Prop where
 pg:PySem.W.plainGet K C Str.empty=true
 hd:PySem.W.hasDictIn K C=true
 po:PySem.W.plainOver K C=true
 sa:PySem.W.findIn K (.ref C) "__setattr__"=some (some (.builtin "object.__setattr__"))
theorem x9.get{K:PySem.W.Frag}(c:x9 K C) (f):PySem.W.plainGet K C f=true:=c.pg
def cq(K:PySem.W.Frag)(C:Addr)(f:Str):Prop:=PySem.W.findIn K (.ref C) f=some none
theorem cq.akF{K:PySem.W.Frag}(n:cq K C f):PySem.W.takerIn K C f=some none:=by
 unfold PySem.W.takerIn;rw[show PySem.W.findIn K (.ref C) f=some none from n];rfl
structure GH(K:PySem.W.Frag)(C:Addr)(f:Str)(v:V)(u:Value):Prop where
 at_:PySem.W.findIn K (.ref C) f=some (some u)
 rel:RelV v u
 get:PySem.W.specialIn K u "__get__"=some none
 cp:PySem.W.copiedNames.contains f=false
structure Meth(K:PySem.W.Frag)(C:Addr)(m:Str)(f:Addr):Prop where
 at_:PySem.W.findIn K (.ref C) m=some (some (.ref f))
 fn:PySem.W.isFn K (.ref f)=true
 kp:PySem.W.keepIn K (.ref f)=true
section
variable{X:Cx}{pins:List (Addr×Obj)}{σ:St}{H:Hp}{s:Shared}{a C dx:Addr}{fs:List (Str×V)}{f:Str}{v:V}{A:Around}{E:Value→Shared→Prop}
theorem asT{b}(I:Inv X pins σ H s)(e:H a=some (.ins C dx fs))(c:x9 X.K C)(n:cq X.K C f)(l:fs.lookup f=some v)
  (h:∀u s',Inv X pins σ H s'→RelV v u→Q u s'):wpAny Ak A (getAttr (.ref a) f b) Q E s:=by
 obtain⟨mA,O,r,_,_,_⟩:=V7 e;obtain⟨u,hu,ru⟩:=lz.some_of (v:=v) (o:=mA f) (by rw[←l];exact r f);exact get_map I.rj O (c.get f) c.hd n hu (aqk ru) (j6 u ru)
theorem oS(I:Inv X pins σ H s)(e:H a=some (.ins C dx fs))(c:x9 X.K C)(k:Meth X.K C m g)(l:fs.lookup m=none)
  (h:Q (.ref g,[.ref a]) s):wpAny Ak A (getMethod (.ref a) m pl) Q E s:=by
 obtain⟨mA,O,r,_,_,_⟩:=V7 e;have hn:mA m=none:=lz.none_of (by rw[←l];exact r m);exact asV I.rj O (c.get m) k.at_ k.fn hn h
theorem akj(I:Inv X pins σ H s)(e:H a=some (.ins C dx fs))(c:x9 X.K C)(n:cq X.K C f)(hl:fs.length<1000)(ry:RelV y u)
  (h:∀s',Inv X pins σ (Hf (.ins C dx (Jz y))) s'→Q () s'):wpAny Ak A (setAttr (.ref a) f u) Q E s:=by
 obtain⟨mA,O,r,wi,_,ho⟩:=V7 e;have hz:(Ii (·.1)).length≤sizeLine:=by rw[List.length_map,sizeLine_eq];omega
 refine awU I.rj O c.sa c.po n.akF c.hd wi hz fun h' O' sb=>h _ ?_
 have hd:∃o,h'.get? dx=some o:=let ⟨o,_,_,e',_⟩:=O'.ns;⟨o,e'⟩
 refine I.write (x:=a) (e:=dx) (by rw[e];exact True.intro) (.inr ho) (fun b q hb z=>(Pa b).trans z) hd ?_;refine⟨by rw[aq O.ne];exact ho,?_,O.ne,O'.obj,_,O'.ns,fun g=>?_,fun g hg=>?_⟩
 ·have:=aY f y fs;omega
 ·show lz ((Jz y).lookup g) (if g=f then some u else mA g);rw[sZ];by_cases q:g=f
  ·rw[A7 q,A7 q];exact ry
  ·rw[A6 q,A6 q];exact r g
 ·by_cases q:g=f
  ·rw[q];exact(rz f y fs).1
  ·refine(rz f y fs).2 g (wi g fun z=>hg ?_);show(if g=f then some u else mA g)=none;rw[A6 q];exact z
theorem Inv.made(I:Inv X pins σ H s):Inv X pins σ (DT (Ea s.heap.objs.size (.own (s.heap.objs.size+1))) (s.heap.objs.size+1) (.ins C s.heap.objs.size []))
  {s with heap:=(Hy PySem.W.emptyDict).push (Q_ C)}:=by
 have e1:(Hy PySem.W.emptyDict).get? s.heap.objs.size=some PySem.W.emptyDict:=Heap.get?_push_size s.heap rfl;have e2:((Hy PySem.W.emptyDict).push (Q_ C)).get? (s.heap.objs.size+1)=some (Q_ C):=by
  have:=Heap.get?_push_size (Hy PySem.W.emptyDict) (o:=Q_ C) rfl;rwa[Heap.size_push]at this
 have e3:(Hy PySem.W.emptyDict).Ns s.heap.objs.size (fun _=>none):=⟨PySem.W.emptyDict,#[],_,e1,rfl,(fun e he=>Fm he),fun _=>rfl⟩
 have I1:=I.laid (a:=s.heap.objs.size) (o:= .own (s.heap.objs.size+1)) (h':=Hy PySem.W.emptyDict) (t':=s.toks) (fun b u q=>BL q) (Nat.le_refl _) ⟨_,e1⟩;refine I1.laid (a:=s.heap.objs.size+1) (o:= .ins C s.heap.objs.size []) (t':=s.toks) (fun b u q=>BL q) (Nb (Heap.size_push _ _)) ?_;have ne:s.heap.objs.size≠s.heap.objs.size+1:=Dn tW;refine⟨by rw[aq ne,ae],Nat.zero_le _,ne,e2,fun _=>none,(Heap.Ns1.of_empty e3).at fun o q=>BL q,fun _=>True.intro,fun y hy=>EV hy⟩
theorem agY{env}(hb:attributeBase e f env (eval e env)=eval e env)
  (h:wpAny AR A (eval e env) (fun o cf=>ZU (getAttr o f true) Q cf) E s):wpAny AR A (eval (.Attribute e f pos) env) Q E s:=
 Attribute_any_ h (by rw[arm_eval_Attribute,hb])
end
inductive LG(K:PySem.W.Frag)(f:Str)(x:V)(H1:Hp)(Q:VK):Prop
 |mk (a) (C) (dx) (fs) (v) (_:x= .ref a) (_:H1 a=some (.ins C dx fs)) (_:x9 K C) (_:cq K C f) (_:fs.lookup f=some v) (_:Q v H1):LG K f x H1 Q
def QN(K:PySem.W.Frag)(ta:TE)(f:Str):TE:=fun σ H Q=>ta σ H fun x H1=>LG K f x H1 Q
def QO(K:PySem.W.Frag)(ta tv:TE)(f:Str):TS:=fun D σ H=>tv σ H fun y H1=>ta σ H1 fun x H2=>∃a C dx fs,x= .ref a∧H2 a=some (.ins C dx fs)∧x9 K C∧cq K C f∧fs.length<1000∧
 D.nx σ (DT H2 a (.ins C dx (Jz y)))
section
variable{X:Cx}{o e value:Expr}{f:Str}{pos pos' aoM:Pos}{ta tv:TE}
theorem atW(he:PE X e ta)(hb:attributeBase e f X.env (eval e X.env)=eval e X.env):PE X (.Attribute e f pos) (QN X.K ta f):=by
 intro pins s σ H Q I h;refine agY hb (cU Fj fun u s1 ⟨x,H1,I1,rx,a,C,dx,fs,v,ex,ea,c,n,l,q⟩=>?_);subst ex;obtain rfl:u=Value.ref a:=rx;exact asT I1 ea c n l fun u' s2 I2 ru=>⟨v,H1,I2,ru,q⟩
theorem aep(ha:PE X o ta)(hv:PE X value tv)(hs:swapsWith value (some (.Attribute o f pos')) pos.line X.env=pure false):PS X (.Assign [.Attribute o f pos'] value pos) (QO X.K ta tv f):=by
 intro pins s σ H D I h;refine plainObj_wpAny_Assign_Attribute (cU auP fun u s1 ⟨y,H1,I1,ry,q⟩=>cU (afi s1 H1 I1 q) fun ov s2 ⟨x,H2,I2,rx,a,C,dx,fs,ex,ea,c,n,l,q2⟩=>?_) hs;subst ex;obtain rfl:ov=Value.ref a:=rx;exact akj I2 ea c n l ry fun s3 I3=>⟨σ,_,I3,q2⟩
theorem axu{apos}(he:PE X e te)(I:Inv X pins σ H s)
  (h:te σ H fun x H1=>∃a C dx fs g,x= .ref a∧H1 a=some (.ins C dx fs)∧x9 X.K C∧Meth X.K C m g∧fs.lookup m=none∧
   ∀s1,Inv X pins σ H1 s1→wpAny Ak X.A (callWith pos (.ref g) [.ref a] (amw pos) (HL pos)) Q X.xe s1)
  (ht:eval (.Call (.Attribute e m apos) args [] pos) X.env=(do
   let ov←eval e X.env
   standAt apos.atName
   let (f,first)←OF [ov]
   callWith pos f first (amw pos) (HL pos))):
  wpAny Ak X.A (eval (.Call (.Attribute e m apos) args [] pos) X.env) Q X.xe s:=by
 refine PySem.W.methodCall_KW (pl:=pl) (cU Fj fun u s1 ⟨x,H1,I1,rx,a,C,dx,fs,g,ex,ea,c,k,l,q⟩=>?_) ht;subst ex;obtain rfl:u=Value.ref a:=rx;exact oS I1 ea c k l (q s1 I1)
end
section
variable{X:Cx}{pins:List (Addr×Obj)}{σ:St}{H:Hp}{s:Shared}{A:Around}{E:Value→Shared→Prop}{Q:Value→Shared→Prop}{c:Value}{b:Bool}
inductive rA(K:PySem.W.Frag)(H:Hp):V→Value→Prop where
 |de:rA K H .de (.type "NoneType")
 |bl (x:Bool):rA K H (.bl x) (.type "bool")
 |int (i:Int):rA K H (.int i) (.type "int")
 |str (x:Str):rA K H (.str x) (.type "str")
 |Lz (x:UInt64):rA K H (.Lz x) (.type "float")
 |lst {a:Addr} {xs:List V} (e:H a=some (.lst xs)):rA K H (.ref a) (.type "list")
 |t9 {a:Addr} {o:Obj} {xs:List V} (e:H a=some (.t9 o (.lst xs))):rA K H (.ref a) (.type "list")
 |tup {a:Addr} {xs:List V} (e:H a=some (.tup xs)):rA K H (.ref a) (.type "tuple")
 |dK {a:Addr} {kvs:List (Key×V)} (e:H a=some (.dK kvs)):rA K H (.ref a) (.type "dict")
 |dT {a:Addr} {kvs:List (List Key×V)} (e:H a=some (.dT kvs)):rA K H (.ref a) (.type "dict")
 |ins {a C dx:Addr} {fs:List (Str×V)} (e:H a=some (.ins C dx fs)) (cl:x9 K C) (ha:PySem.W.findIn K (.ref C) "__class__"=some (some (.builtin "object.__class__")))
   (hn:PySem.W.specialIn K (.builtin "object.__class__") "__get__"=some (some (.builtin "getset_descriptor.__get__"))) (XM:PySem.W.takesIn K (.builtin "object.__class__")=some true)
   (hm:PySem.W.mroIn K C (.type "object")=some true):rA K H (.ref a) (.ref C)
theorem apM{t:Value}(I:Inv X pins σ H s)(rx:RelV x u)(ty:rA X.K H x t)(e:PySem.W.kitOne X.K t c=some b)(h:∀tk,Q (.bool b) {s with toks:=tk}):
  wpAny Ak A (call (.builtin "isinstance") [u,c]) Q E s:=by
 cases ty with
 |de=>cases(show u=Value.none from rx);exact PySem.W.kia_one PySem.W.kitx_none I.rj True.intro e (fun z=>nomatch z) h
 |bl y=>cases(show u=Value.bool y from rx);exact PySem.W.kia_one PySem.W.kitx_bool I.rj True.intro e (fun z=>nomatch z) h
 |int i=>obtain⟨t,q⟩:=(show ∃t,u=Value.int i t from rx);cases q;exact PySem.W.kia_one PySem.W.kitx_int I.rj True.intro e (fun z=>nomatch z) h
 |str y=>obtain⟨t,q⟩:=(show ∃t,u=Value.str y t from rx);cases q;exact PySem.W.kia_one PySem.W.kitx_str I.rj True.intro e (fun z=>nomatch z) h
 |Lz y=>obtain⟨t,q⟩:=(show ∃t,u=Value.float y t from rx);cases q;exact PySem.W.kia_one PySem.W.kitx_float I.rj True.intro e (fun z=>nomatch z) h
 |@lst a xs ea=>
  cases(show u=Value.ref a from rx);obtain⟨_,_,n,_,h1⟩:=(show dA X.prog X.w H s.heap a (.lst xs)from I.cc a _ ea)
  exact PySem.W.kia_one PySem.W.kitx_list I.rj ⟨_,h1,rfl⟩ e (fun z=>nomatch z) h
 |@t9 a ob xs ea=>
  cases(show u=Value.ref a from rx);obtain⟨_,_,_,n,_,h1⟩:=(show dA X.prog X.w H s.heap a (.t9 ob (.lst xs))from I.cc a _ ea)
  exact PySem.W.kia_one PySem.W.kitx_list I.rj ⟨_,h1,rfl⟩ e (fun z=>nomatch z) h
 |@tup a xs ea=>
  cases(show u=Value.ref a from rx);obtain⟨_,_,_,p⟩:=(show dA X.prog X.w H s.heap a (.tup xs)from I.cc a _ ea)
  obtain⟨o,h1,h2,_⟩:=p;exact PySem.W.kia_one PySem.W.kitx_tuple I.rj ⟨o,h1,h2⟩ e (fun z=>nomatch z) h
 |@dK a kvs ea=>
  cases(show u=Value.ref a from rx);obtain⟨_,_,vs,_,p⟩:=(show dA X.prog X.w H s.heap a (.dK kvs)from I.cc a _ ea)
  obtain⟨o,es,ep,h1,h2,_⟩:=p;exact PySem.W.kia_one PySem.W.kitx_dict I.rj ⟨o,h1,h2.1⟩ e (fun z=>nomatch z) h
 |@dT a kvs ea=>
  cases(show u=Value.ref a from rx);obtain⟨_,_,xs,_,o,es,ep,h1,h2,_⟩:=(show dA X.prog X.w H s.heap a (.dT kvs)from I.cc a _ ea)
  exact PySem.W.kia_one PySem.W.kitx_dict I.rj ⟨o,h1,h2.1⟩ e (fun z=>nomatch z) h
 |@ins a C dx fs ea cl ha hn XM hm=>
  cases(show u=Value.ref a from rx);obtain⟨mA,O,_⟩:=V7 ea;obtain⟨od,J,_⟩:=O.look;exact PySem.W.kia_one (PySem.W.kitx_own (cl.get _) cl.hd ha hn XM hm) I.rj J e (fun z=>nomatch z) h
end
structure e_(cm:Bool)(k:Nat)(A:Around):Prop where
 hd:cm=true→A.handled=none
 dp:A.depth+3*k+5<recursionLimit
 un:A.units+16*k+200<cLine
theorem e_.mono(r:e_ cm k A)(h:j≤k):e_ cm j A:=⟨r.hd,by have:=r.dp;omega,by have:=r.un;omega⟩
theorem e_.deeper(r:e_ cm (k+1) A) (env):e_ cm k (Bc env):=
 ⟨r.hd,by have:=r.dp;show A.depth+1+3*k+5<_;omega,by have:=r.un;show A.units+3+16*k+200<_;omega⟩
theorem aiE{A:Around}:(Q7 (.builtin "type.__call__" ⟨.ref C::us,kw⟩)).depth=A.depth+1:=by
 first|rfl|simp[Around.under,Code.weight,Code.isCreation,Code.isGuard,Code.isCaller,Code.frames,Code.isFrame,guardIds]
theorem aqV{A:Around}:(Q7 (.builtin "type.__call__" ⟨.ref C::us,kw⟩)).units=A.units+1:=by
 first|rfl|simp[Around.under,Code.cUnits,Code.frames,Code.isFrame]
theorem e_.make(r:e_ cm (k+1) A) (C) (us) (kw):e_ cm k (Q7 (.builtin "type.__call__" ⟨.ref C::us,kw⟩)):=
 ⟨r.hd,by have:=r.dp;rw[aiE];omega,by have:=r.un;rw[aqV];omega⟩
theorem e_.depth(r:e_ cm k A):A.depth<recursionLimit:=by have:=r.dp;omega
theorem e_.units(r:e_ cm k A):A.units+64<cLine:=by have:=r.un;omega
def GI:TA:=fun _ H Q=>Q [] H
def adK(ta:TE)(tr:TA):TA:=fun σ H Q=>ta σ H fun x H1=>tr σ H1 fun xs H2=>Q (x::xs) H2
section
variable{X:Cx}{e:Expr}{es:List Expr}{te:TE}{t:TA}{pos:Pos}
theorem af:PA X [] GI:=fun _ _ _ _ H Q I h=>NM ⟨[],H,I, .nil,h⟩
theorem ahD(ha:PE X e te)(hr:PA X es t)(hs:starEach (e::es) X.env=(false,eval e X.env)::starEach es X.env:=by rfl):PA X (e::es) (adK te t):=by
 intro pos pins s σ H Q I h;rw[hs];show wpAny _ _ (spliced ((false,eval e X.env)::backTo pos (sT es))) _ _ s;refine Calls.spliced_cons (cU G7 fun u s1 ⟨x,H1,I1,r1,q1⟩=>?_);exact cU (hr pos pins s1 σ H1 _ I1 q1) fun us s2 ⟨xs,H2,I2,r2,q2⟩=>⟨x::xs,H2,I2, .cons r1 r2,q2⟩
def apc(t:TA):TE:=fun σ H Q=>t σ H fun xs H1=>xs.length≤sizeLine∧∀p,H1 p=none→Q (.ref p) (Ra p (.tup xs))
def aef(t:TA):TE:=fun σ H Q=>t σ H fun xs H1=>xs.length≤sizeLine∧∀p,H1 p=none→Q (.ref p) (Ra p (.lst xs))
theorem aid{x1}(h:PA X es t):PE X (.Tuple es x1 pos) (apc t):=by
 intro pins s σ H Q I hq;refine wpAny_Tuple_spliced (cU aue fun us s1 ⟨xs,H1,I1,r,z,q⟩=>⟨by rw[←r.length];exact z,?_⟩);have hf:H1 s1.heap.objs.size=none:=ZH Bj;refine⟨.ref s1.heap.objs.size,anx (.tup xs),tY ?_,rfl,E8 hf⟩;exact⟨z,us,r,⟨_,Heap.get?_push_size _ rfl,rfl,_,rfl⟩⟩
theorem aap(h:PA X es t):PE X (.List es pos) (aef t):=by
 intro pins s σ H Q I hq;refine wpAny_List_spliced (cU aue fun us s1 ⟨xs,H1,I1,r,z,q⟩=>⟨by rw[←r.length];exact z,?_⟩);have hf:H1 s1.heap.objs.size=none:=ZH Bj;refine⟨.ref s1.heap.objs.size,anx (.lst xs),tY ?_,rfl,E8 hf⟩;exact⟨z,us,0,r,Heap.get?_push_size _ rfl⟩
end
abbrev Sp:=List V→Hp→VK→XK→Prop
abbrev LJ:=List Env→Hp→Shared→XK→Value→Shared→Prop
structure BS(P:Program)(w:World)(K:PySem.W.Frag)(mg:Str→Option Value)(base:Heap)(A:Around)(outer:List Env)(s:Shared)(H:Hp):Prop where
 frames:A.frames=some outer
 mod:Mod K mg base
 bs:∀b o,base.get? b=some o→s.heap.get? b=some o∧H b=none
 MR:base.objs.size≤s.heap.objs.size
 vY:s.heap.FunFrames base outer
 Qq:∀b∈pV outer,H b=none
 cc:mH P w H s.heap
 bare:AllBare s.gens
def CE(outer:List Env)(P:Program)(w:World)(H:Hp)(s:Shared)(Q:VK)(u:Value)(s':Shared):Prop:=
 ∃v H',s'.os=s.os∧AllBare s'.gens∧Un VD [] H H' s.heap s'.heap∧mH P w H' s'.heap∧RelV v u∧Q v H'
def CR(CX:LJ)(outer:List Env)(P:Program)(w:World)(H:Hp)(s:Shared)(Q:VK)(E:XK)(r:Result)(s':Shared):Prop:=
 match r with
 | .ok (.ret u)=>CE outer P w H s Q u s'
 | .ok _=>False
 | .error e=>so e s'
structure aZ(P:Program)(w:World)(K:PySem.W.Frag)(mg:Str→Option Value)(base:Heap)(CX:LJ)(cm:Bool)(k:Nat)(f:Addr)(fd:FuncData)(ps:List Str)(sp:Sp):Prop where
 len:∀vs H Q E,sp vs H Q E→vs.length=ps.length
 run:∀(A:Around)(outer:List Env)(s:Shared)(H:Hp)(args:Args)(us:List Value)(vs:List V)(Q:VK)(E:XK),e_ cm k A→BS P w K mg base A outer s H→BindsTo s fd args (qQ us)→Vals vs us→sp vs H Q E→
  codeAny HC A (.call (.ref f) args) (CR CX outer P w H s Q E) s
theorem BS.make{K:PySem.W.Frag}(e:BS P w K mg base A outer s H) (C) (us) (kw):
  BS P w K mg base (Q7 (.builtin "type.__call__" ⟨.ref C::us,kw⟩)) outer s H:=⟨by first|exact e.frames|(simpa[Around.under,Code.envs,Code.isFrame,pushEnvs]using e.frames),e.mod,e.bs,e.MR,e.vY,e.Qq,e.cc,e.bare⟩
section
variable{X:Cx}{pins:List (Addr×Obj)}{σ:St}{H:Hp}{s s':Shared}
theorem Inv.Nd(I:Inv X pins σ H s):BS X.prog X.w X.K X.mg X.base X.A X.stack s H:=
 ⟨I.ok.frames,I.ok.mod,I.bs,E3 I.ok.MR I.sz,I.stack,I.x5,I.cc,I.bare⟩
theorem Inv.after(I:Inv X pins σ H s)(h:CE X.stack X.prog X.w H s Q u s'):EP X pins σ Q u s':=by
 obtain⟨v,H',os,bare,un,cc,r,q⟩:=h;obtain⟨hh,g,d,t,alU⟩:=s';obtain rfl:alU=s.os:=os;exact⟨v,H',I.call (h':=hh) (g':=g) (d':=d) (t':=t) (ch:=[]) un cc bare (fun b z=>Fm z),r,q⟩
end
def GJ(sp:Sp)(l_:List V)(E:St→XK)(t:TA):TE:=fun σ H Q=>t σ H fun vs H1=>sp (vs++l_) H1 Q (E σ)
def Dz(C:Addr)(m:Str)(sp:Sp)(l_:List V)(E:St→XK)(ta:TE)(t:TA):TE:=fun σ H Q=>ta σ H fun x H1=>∃a dx fs,x= .ref a∧H1 a=some (.ins C dx fs)∧fs.lookup m=none∧
 t σ H1 fun vs H2=>sp (x::(vs++l_)) H2 Q (E σ)
def alP(C:Addr)(sp:Sp)(l_:List V)(E:St→XK)(t:TA):TE:=fun σ H Q=>t σ H fun vs H1=>∀x dx,H1 x=none→H1 dx=none→dx≠x→
 sp (.ref x::(vs++l_)) (DT (sj H1) x (.ins C dx [])) (fun v H2=>v= .de∧Q (.ref x) H2) (E σ)
def Binds(K:PySem.W.Frag)(fd:FuncData)(ps:List Str)(ds:List Value):Prop:=
 ∀(s:Shared)(us:List Value),K.In s.heap→(us++ds).length=ps.length→BindsTo s fd ⟨us,[]⟩ (qQ (us++ds))
theorem Binds.all{K:PySem.W.Frag}{ps}(h:∀us:List Value,us.length=ps.length→bindArgs fd ⟨us,[]⟩=pure R3):Binds K fd ps []:=fun s us _ hl=>by
 rw[List.append_nil]at hl⊢;exact .of_eq (h us hl)
def Passes(CX:LJ)(X:Cx)(E:St→XK):Prop:=∀(pins:List (Addr×Obj))(σ:St)(H:Hp)(s:Shared)(e:Value)(s':Shared),Inv X pins σ H s→CX X.stack H s (E σ) e s'→X.xe e s'
section
variable{X:Cx}{CX:LJ}{cm:Bool}{k:Nat}{f C:Addr}{fd:FuncData}{ps:List Str}{sp:Sp}{l_:List V}{ds:List Value}{E:St→XK}{x m:Str}{p pos apos:Pos}{e o:Expr}{es:List Expr}{ta:TE}{t:TA}
theorem BU(F:aZ X.prog X.w X.K X.mg X.base CX cm k f fd ps sp)(hr:e_ cm k X.A)(hb:Binds X.K fd ps ds)(hd:Vals l_ ds)(hx:Passes CX X E)
  (I:Inv X pins σ H s) (r:Vals vs us) (h:sp (vs++l_) H Q (E σ)):wpAny Ak X.A (call (.ref f) us) (DR Q) X.xe s:=by
 have r2:Vals (vs++l_) (us++ds):=OJ hd;have hl:(us++ds).length=ps.length:=by rw[←r2.length];exact si h
 refine wpAny_call (codeAny_mono (F.run X.A X.stack s H ⟨us,[]⟩ (us++ds) (vs++l_) Q (E σ) hr I.Nd (hb s us I.rj hl) r2 h) fun r s' hq=>?_);cases r with
 |error e=>exact hx pins σ H s e s' I hq
 |ok fl=>
  cases fl with
  |ret u=>exact I.after hq
  |next=>exact E2 hq
  |brk=>exact E2 hq
  |cont=>exact E2 hq
theorem agW(F:aZ X.prog X.w X.K X.mg X.base CX cm k f fd ps sp)(hr:e_ cm k X.A)(hg:Gl X x)(hm:X.mg x=some (.ref f))(hk:PySem.W.keepIn X.K (.ref f)=true)(hb:Binds X.K fd ps ds)(hd:Vals l_ ds)(hx:Passes CX X E)
  (ha:PA X (e::es) t) (vZ:(x==("__debug__":Str))=false:=by decide) (he:starEach (e::es) X.env=(false,eval e X.env)::starEach es X.env:=by rfl) (rg:(EB pos).any (·.1)=false:=by rfl):
  PE X (.Call (.Name x p) (e::es) [] pos) (GJ sp l_ E t):=by
 intro pins s σ H Q I h;refine wpAny_Call_Name_kw l7;refine PySem.W.callWith_K (h₀:=X.base) I.ok.mod.Pd hk (cU JJ fun us s1 ⟨vs,H1,I1,r,q⟩=>⟨I1.rj,?_⟩) he rg;exact BU F hr hb hd hx I1 r q
theorem awx(he:PE X o ta)(c:x9 X.K C)(hm:Meth X.K C m f)(F:aZ X.prog X.w X.K X.mg X.base CX cm k f fd ps sp)(hr:e_ cm k X.A)(hb:Binds X.K fd ps ds)(hd:Vals l_ ds)(hx:Passes CX X E)(ha:PA X (e::es) t)
  (uo:starEach (e::es) X.env=(false,eval e X.env)::starEach es X.env:=by rfl) (rg:(EB pos).any (·.1)=false:=by rfl)
  (ht:eval (.Call (.Attribute o m apos) (e::es) [] pos) X.env=(do
   let ov←eval o X.env
   standAt apos.atName
   let (f,first)←OF [ov]
   callWith pos f first (WI pos) (HL pos)):=by rfl):
  PE X (.Call (.Attribute o m apos) (e::es) [] pos) (Dz C m sp l_ E ta t):=by
 intro pins s σ H Q I h;refine PySem.W.methodCall_KW (pl:=pl) (cU Fj fun u s1 ⟨x,H1,I1,rx,a,dx,fs,ex,ea,l,q⟩=>?_) ht;subst ex;obtain rfl:u=Value.ref a:=rx;refine oS I1 ea c hm l ?_;refine PySem.W.callWith_K (first:=[.ref a]) (h₀:=X.base) I.ok.mod.Pd hm.kp (cU (bR s1 H1 I1 q) fun us s2 ⟨vs,H2,I2,r,q2⟩=>⟨I2.rj,?_⟩) uo rg;exact BU (us:= .ref a::us) (vs:= .ref a::vs) F hr hb hd hx I2 (.cons rfl r) q2
theorem asq(he:PE X o ta)(c:x9 X.K C)(hm:Meth X.K C m f)(F:aZ X.prog X.w X.K X.mg X.base CX cm k f fd ps sp)(hr:e_ cm k X.A)(hb:Binds X.K fd ps ds)(hd:Vals l_ ds)(hx:Passes CX X E)
  (ht:eval (.Call (.Attribute o m apos) [] [] pos) X.env=(do
   let ov←eval o X.env
   standAt apos.atName
   let (f,first)←OF [ov]
   callWith pos f first (zd pos) (HL pos)):=by rfl):
  PE X (.Call (.Attribute o m apos) [] [] pos) (Dz C m sp l_ E ta GI):=by
 intro pins s σ H Q I h;refine PySem.W.methodCall_KW (pl:=pl) (cU Fj fun u s1 ⟨x,H1,I1,rx,a,dx,fs,ex,ea,l,q⟩=>?_) ht;subst ex;obtain rfl:u=Value.ref a:=rx;refine oS I1 ea c hm l ?_;exact PySem.W.callWith_K0 (first:=[.ref a]) I1.rj hm.kp (BU (us:=[.ref a]) (vs:=[.ref a]) F hr hb hd hx I1 (.cons rfl .nil) q)
structure Mk(K:PySem.W.Frag)(C f:Addr):Prop where
 makes:PySem.W.makesIn K C=true
 init:PySem.W.findIn K (.ref C) "__init__"=some (some (.ref f))
 fn:PySem.W.isFn K (.ref f)=true
 kp:PySem.W.keepIn K (.ref C)=true
theorem acI(M:Mk X.K C f)(F:aZ X.prog X.w X.K X.mg X.base CX cm k f fd ps sp)(hr:e_ cm (k+1) X.A)(hb:Binds X.K fd ps ds)(hd:Vals l_ ds)
  (hx:Passes CX X E) (I:Inv X pins σ H s) (r:Vals vs us)
  (h:∀x dx,H x=none→H dx=none→dx≠x→sp (.ref x::(vs++l_)) (DT yc x (.ins C dx [])) (fun v H2=>v= .de∧Q (.ref x) H2) (E σ)):
  wpAny Ak X.A (call (.ref C) us) (DR Q) X.xe s:=by
 have hq:=h (s.heap.objs.size+1) s.heap.objs.size (HA (Nat.le_succ _)) (HA Bj) (Dn tW);have I2:=Inv.made (C:=C) I;have r2:Vals (V.ref (s.heap.objs.size+1)::(vs++l_)) (Value.ref (s.heap.objs.size+1)::(us++ds)):= .cons rfl (OJ hd);have hl:(Value.ref (s.heap.objs.size+1)::us++ds).length=ps.length:=by
  have e:=r2.length;rw[si hq]at e;exact e.symm
 refine wpAny_call (aup (f:=f) I.rj M.makes M.init (Xr M.fn) (codeAny_mono (F.run _ X.stack _ _ ⟨Value.ref (s.heap.objs.size+1)::us,[]⟩ (Value.ref (s.heap.objs.size+1)::(us++ds)) _ _ (E σ) (hr.make C us [])
  (I2.Nd.make C us []) (hb _ (Value.ref (s.heap.objs.size+1)::us) I2.rj hl) r2 hq) fun r s' QP=>?_))
 cases r with
 |error e=>exact hx pins σ _ _ e s' I2 QP
 |ok fl=>
  cases fl with
  |ret u=>
   obtain⟨v,H',I3,rv,ev,q3⟩:=I2.after QP;subst ev;exact⟨rv,⟨C_ (s.heap.objs.size+1),H',I3,rfl,q3⟩⟩
  |next=>exact E2 QP
  |brk=>exact E2 QP
  |cont=>exact E2 QP
theorem alE(M:Mk X.K C f)(F:aZ X.prog X.w X.K X.mg X.base CX cm k f fd ps sp)(hr:e_ cm (k+1) X.A)(hg:Gl X x)(hm:X.mg x=some (.ref C))(hb:Binds X.K fd ps ds)(hd:Vals l_ ds)(hx:Passes CX X E)
  (ha:PA X (e::es) t) (vZ:(x==("__debug__":Str))=false:=by decide) (he:starEach (e::es) X.env=(false,eval e X.env)::starEach es X.env:=by rfl) (rg:(EB pos).any (·.1)=false:=by rfl):
  PE X (.Call (.Name x p) (e::es) [] pos) (WW t):=by
 intro pins s σ H Q I h;refine wpAny_Call_Name_kw l7;refine PySem.W.callWith_K (h₀:=X.base) I.ok.mod.Pd M.kp (cU JJ fun us s1 ⟨vs,H1,I1,r,q⟩=>⟨I1.rj,?_⟩) he rg;exact acI M F hr hb hd hx I1 r q
theorem ang(M:Mk X.K C f)(F:aZ X.prog X.w X.K X.mg X.base CX cm k f fd ps sp)(hr:e_ cm (k+1) X.A)(hg:Gl X x)(hm:X.mg x=some (.ref C))(hb:Binds X.K fd ps ds)(hd:Vals l_ ds)(hx:Passes CX X E)
  (vZ:(x==("__debug__":Str))=false:=by decide):PE X (.Call (.Name x p) [] [] pos) (WW GI):=by
 intro pins s σ H Q I h;refine wpAny_Call_Name_kw l7;exact PySem.W.callWith_K0 I.rj M.kp (acI (us:=[]) M F hr hb hd hx I .nil h)
end
section
variable{X:Cx}{CX:LJ}{cm:Bool}{k:Nat}{f C:Addr}{fd:FuncData}{ps ks:List Str}{sp:Sp}{E:St→XK}{x m:Str}{p pos apos axd:Pos}{e o:Expr}{es:List Expr}{kws:List Keyword}{te ta:TE}{t tk:TA}{nm:Option Str}
variable{g:List Value→List Value→List Value}{gV:List V→List V→List V}
end
structure aK(N P:List Str)(sc:Scope):Prop where
 kind:sc.kind= .function
 co:sc.isCoroutine=false
 gen:sc.isGenerator=false
 nd:N.Nodup
 pre:N.take P.length=P
 par:∀x∈P,sc.names.lookup x=some .local∨sc.names.lookup x=some .cell
 arH:∀y∈sc.names,y.2≠ .free
theorem xr{kindOf}:∀{binds:List (Str×Value)}{m:Str→Option Value},(∀v,(x,v)∉binds)→bindL kindOf binds m x=m x
 |[],_,_=>rfl
 |(n,v)::r,m,h=>by
  unfold bindL;rw[xr fun w hw=>xn w];split
  ·have:x≠n:=by rintro rfl;exact h v List.mem_cons_self
   simp[this]
  ·rfl
theorem xt{kindOf}:∀{binds:List (Str×Value)}{m:Str→Option Value},(∀v,(x,v)∉binds)→bindC kindOf binds m x=m x
 |[],_,_=>rfl
 |(n,v)::r,m,h=>by
  unfold bindC;rw[xt fun w hw=>xn w];split
  ·rfl
  ·have:x≠n:=by rintro rfl;exact h v List.mem_cons_self
   simp[this]
theorem acR{kindOf}:∀{P:List Str}{vs:List Value}{i:Nat}{m:Str→Option Value},P.Nodup→P[i]?=some x→vs[i]?=some v→kindOf x=some .local→
  bindL kindOf (P.zip vs) m x=some v
 |[],_,_,_,_,h,_,_=>by simp at h
 | _::_,[],_,_,_,_,h,_=>by simp at h
 |p::P,w::vs,0,m,nd,h1,h2,hk=>by
  simp at h1 h2;subst h1;subst h2;show bindL kindOf ((p,w)::P.zip vs) m p=_;unfold bindL;rw[xr fun v hv=>(K8 nd).1 (qS hv).1,A7 hk];simp
 |p::P,w::vs,i+1,m,nd,h1,h2,hk=>by
  show bindL kindOf ((p,w)::P.zip vs) m x=_;unfold bindL;exact acR (i:=i) (K8 nd).2 (by simpa using h1) (by simpa using h2) hk
theorem xv{kindOf}:∀{P:List Str}{vs:List Value}{i:Nat}{m:Str→Option Value},P.Nodup→P[i]?=some x→vs[i]?=some v→kindOf x≠some .local→
  bindC kindOf (P.zip vs) m x=some v
 |[],_,_,_,_,h,_,_=>by simp at h
 | _::_,[],_,_,_,_,h,_=>by simp at h
 |p::P,w::vs,0,m,nd,h1,h2,hk=>by
  simp at h1 h2;subst h1;subst h2;show bindC kindOf ((p,w)::P.zip vs) m p=_;unfold bindC;rw[xt fun v hv=>(K8 nd).1 (qS hv).1,A6 hk];simp
 |p::P,w::vs,i+1,m,nd,h1,h2,hk=>by
  show bindC kindOf ((p,w)::P.zip vs) m x=_;unfold bindC;exact xv (i:=i) (K8 nd).2 (by simpa using h1) (by simpa using h2) hk
def start(N:List Str)(vs:List V):St:=vs.map some++List.replicate (N.length-vs.length) none
def BV(CX:LJ)(cm:Bool)(P:Program)(w:World)(K:PySem.W.Frag)(mg:Str→Option Value)(base:Heap)(N:List Str)(qual:Str)(scope:Scope)(f:Addr)(cd:Value)(A:Around)(outer:List Env)(s:Shared)(H:Hp)(E:XK):Cx where
 prog:=P
 w:=w
 K:=K
 mg:=mg
 base:=base
 A:=Bc Nu
 N:=N
 dQ:=s
 fA:=H
 env:=IQ cd
 outer:=outer
 stack:=envOfC qual scope s.heap.objs.size f cd::outer
 ex:=[]
 calm:=cm
 fn:=fun _=>true
 pn:=[]
 xe:=fun e s'=>wpAny HC (Bc Nu) (leaving (IQ cd) e) (fun _ zU=>so e zU) (fun e' zU=>so e' zU) s'
theorem Ag{sc:Scope}(h:sc.names.lookup x=some .cell):∃c,(ot n sc.names).lookup x=some c:=by
 have q:=PySem.W.cellsFrom_some sc.names n [] (.inl h);exact Hj q
theorem agz{CX}{cm:Bool}{P}{w}{K}{mg}{base}{N ps:List Str}{qual}{scope:Scope}{f}{cd}{A:Around}{outer}{s s1:Shared}{H}{E}{us}{vs:List V}
  (S:aK N ps scope) (hd:cm=true→A.handled=none) (e0:BS P w K mg base A outer s H) (hl:vs.length=ps.length) (r:Vals vs us)
  (x:InCallC s s.heap.objs.size (bindL (IQ cd).kindOf R3 fun _=>none) (ot (s.heap.objs.size+1) scope.names) (bindC (IQ cd).kindOf R3 fun _=>none) s1):
  Inv (YA CX cd) [] (start N vs) H s1:=by
 have rg:ps.length≤N.length:=by have:=congrArg List.length S.pre;rw[List.length_take]at this;omega
 obtain⟨h1,tk,rfl,hk⟩:=x.done;have QR:∀b:Addr,b∉(YA CX cd).ex:=fun b z=>Fm (show b∈([]:List Addr)from z)
 refine⟨⟨e0.mod,S.kind,rfl,rfl,Nat.le_refl _,fun y z c h1 h2=>?_,fun y hy=>?_,fun y c _ h=>?_,fun z=>hd z,Around.frames_deeper e0.frames, .inr ⟨rfl,rfl⟩,fun b z=>BO z (QR b),e0.bs,e0.MR,fun b _ _=>QR b,fun b z=>BO z (QR b),e0.vY,e0.Qq⟩,
  rfl,e0.bare,Un.kept hk,⟨_,x.toInCall.ns,fun i y v h1 h2 h3=>?_⟩,fun y c h=>⟨_,x.cell y c h⟩,e0.cc.fresh Bj,fun y c h=>?_,fun p hp=>Fm (show p∈([]:List (Addr×Obj))from hp),e0.cc.kept hk,?_⟩
 ·exact name_of_addr x.apart (W8 h1) (W8 h2)
 ·have hy:scope.names.lookup y=some .cell∨scope.names.lookup y=some .free:=hy;rcases hy with hy|hy
  ·exact Ag hy
  ·exact EV (S.arH _ (W8 hy))
 ·exact pL (yM y c)
 ·have hi:i<vs.length:=by
   unfold start at h2;by_cases hi:i<vs.length
   ·exact hi
   ·rw[Br (by simpa using hi)]at h2;rw[List.getElem?_replicate]at h2;split at h2<;>cases h2
  have ha:vs[i]?=some v:=by
   unfold start at h2;rw[Bi (by simpa using hi),List.getElem?_map]at h2;cases e:vs[i]? with
   |none=>rw[e]at h2;cases h2
   |some a=>rw[e]at h2;cases h2;rfl
  obtain⟨u,hu,rv⟩:=r.get ha;have hp:ps[i]?=some y:=by
   rw[←S.pre,List.getElem?_take_of_lt DH];exact h1
  have XN:ps.Nodup:=by rw[←S.pre];exact S.nd.sublist J'
  refine⟨u,rv,?_⟩;rcases S.par y (B7 hp)with k|k
  ·exact .inl ⟨k,acR XN hp hu k⟩
  ·obtain⟨c,e⟩:=Ag (n:=s.heap.objs.size+1) k;refine .inr ⟨.inl k,c,e,?_⟩;have q:=x.cell y c e;rw[xv XN hp hu (by show scope.names.lookup y≠_;rw[k];decide)]at q;exact q
 ·exact e0.cc.fresh (pL (yM y c))
 ·unfold start;show _=N.length;rw[List.length_append,List.length_map,List.length_replicate];omega
theorem aay{K}{name qual}{params}{body}{scope}{dV kV doc pm gK ct:Value}{an:Option Addr}
  {N:List Str} (lk:K.lookup f=some ⟨oc,od, .func wm,GN⟩) (EF:PySem.W.codeIn K gK qual=true) (S:aK N ps scope)
  (len:∀vs H Q E,sp vs H Q E→vs.length=ps.length)
  (Ah:∀(A:Around)(outer:List Env)(s:Shared)(H:Hp)(vs:List V)(Q:VK)(E:XK),e_ cm k (Bc (IQ gK))→sp vs H Q E→
   ∃t,EE dE body t∧t {nx:=fun _ H'=>Q .de H',rt:=Q} (start N vs) H):
  aZ P w K mg base CX cm (k+1) f wm ps sp:=by
 refine⟨len,fun A outer s H args us vs Q E hr e0 hb r DC=>?_⟩;have hl:=len _ _ _ _ DC;have KX:K.In s.heap:=e0.mod.Pd.keeps fun b o e=>(e0.bs b o e).1
 have lim:s.heap.NoLimit:=e0.mod.nolimit.keeps fun b o e=>(e0.bs b o e).1
 have apX:∀y∈ps.zip us,scope.names.lookup y.1=some .local∨(scope.names.lookup y.1=some .cell∧((ot (s.heap.objs.size+1) scope.names).lookup y.1).isSome=true):=fun⟨n,v⟩ hy=>by
  rcases S.par n (qS hy).1 with q|q
  ·exact .inl q
  ·exact .inr ⟨q,PySem.W.cellsFrom_some _ _ _ (.inl q)⟩
 refine codeAny_call_function hr.depth (KX _ _ lk) rfl S.co S.gen rfl (PySem.W.codeRec_of KX EF) (hb _ _ _ _ ?_);refine wpAny_newFunctionEnv_cells S.kind apX fun env he s1 x=>?_
 subst he;refine⟨lim.keeps x.toInCall.keep,codeAny_func ?_⟩;obtain⟨t,ht,hq⟩:=Ah A outer s H vs Q E (hr.deeper _) DC;have I:Inv dE [] (start N vs) H s1:=agz S hr.hd e0 hl r x;refine wpAny_mono (ht [] s1 (start N vs) H _ I hq) (fun fl s' hs=>?_) fun e s' hs=>hs
 have fin:∀{bK:St}{H':Hp}{v:V}{u:Value},Inv dE [] bK H' s'→RelV v u→Q v H'→CE outer P w H s Q u s':=
  fun{bK H' v u} J rv q=>⟨v,H',J.os,J.bare,J.base,J.cc,rv,q⟩
 cases fl with
 |ret u=>
  obtain⟨v,bK,H',J,rv,q⟩:=hs;exact fin J rv q
 |next=>
  obtain⟨bK,H',J,q⟩:=hs;exact fin (v:=V.de) (u:=Value.none) J rfl q
 |brk=>
  obtain⟨_,_,_,q⟩:=hs;exact E2 q
 |cont=>
  obtain⟨_,_,_,q⟩:=hs;exact E2 q
section
variable{X:Cx}{x:Str}{p pos:Pos}{e:Expr}{es:List Expr}{t:TA}{id T:String}{r:List V→Hp→VK→Prop}
def XO(r:List V→Hp→VK→Prop)(t:TA):TE:=fun σ H Q=>t σ H fun vs H1=>r vs H1 Q
theorem aX(hc:jF X (.builtin id) r)(hg:Gl X x)(hm:X.mg x=none)(hv:bootBuiltins x=some (.builtin id))(ha:PA X (e::es) t)(hn:x≠"__name__":=by decide)(vZ:(x==("__debug__":Str))=false:=by decide)
  (he:starEach (e::es) X.env=(false,eval e X.env)::starEach es X.env:=by rfl) (rg:(EB pos).any (·.1)=false:=by rfl):PE X (.Call (.Name x p) (e::es) [] pos) (XO r t):=by
 intro pins s σ H Q I h;refine wpAny_Call_Name_kw (ky ?_ vZ);exact PyProof.Rows.callWith_builtin1 (cU JJ fun us s1 ⟨vs,H1,I1,r1,q1⟩=>tU Q) he rg
theorem b_(hc:jF X (.type T) r)(hg:Gl X x)(hm:X.mg x=none)(hv:bootBuiltins x=some (.type T))(ha:PA X (e::es) t)(hn:x≠"__name__":=by decide)(vZ:(x==("__debug__":Str))=false:=by decide)
  (he:starEach (e::es) X.env=(false,eval e X.env)::starEach es X.env:=by rfl) (rg:(EB pos).any (·.1)=false:=by rfl):PE X (.Call (.Name x p) (e::es) [] pos) (XO r t):=by
 intro pins s σ H Q I h;refine wpAny_Call_Name_kw (ky ?_ vZ);exact zy (cU JJ fun us s1 ⟨vs,H1,I1,r1,q1⟩=>tU Q) he rg
end
section
variable{κ:Type}[DecidableEq κ]
def bH(kvs:List (κ×V))(k:κ):Option V:=(kvs.find? fun kv=>decide (kv.1=k)).map (·.2)
def putK(kvs:List (κ×V))(k:κ)(v:V):List (κ×V):=
 if (kvs.any fun kv=>decide (kv.1=k))=true then kvs.map (fun kv=>if kv.1=k then(kv.1,v)else kv)else kvs++[(k,v)]
def jG(kvs:List (κ×V))(k:κ):List (κ×V):=kvs.filter fun kv=>decide (kv.1≠k)
theorem uw:bH ([]:List (κ×V)) k=none:=rfl
theorem cV{p:κ×V}(e:p.1=k):bH (p::r) k=some p.2:=by simp[bH,List.find?_cons,e]
theorem cJ{p:κ×V}(e:¬p.1=k):bH (p::r) k=bH r k:=by simp[bH,List.find?_cons,e]
theorem iQ (k):∀kvs:List (κ×V),(kvs.any fun kv=>decide (kv.1=k))=(M7 k).isSome
 |[]=>rfl
 |p::r=>by
  rw[List.any_cons];by_cases e:p.1=k
  ·simp only[cV e,EK e,Bool.true_or,Option.isSome_some]
  ·rw[cJ e,EI e,Bool.false_or];exact iQ k r
theorem Ai(k j:_) (y):∀kvs:List (κ×V),bH (kvs.map fun kv=>if kv.1=k then(kv.1,y)else kv) j=(M7 j).map fun x=>if j=k then y else x
 |[]=>rfl
 |p::r=>by
  have ih:=Ai k j y r;rw[List.map_cons];by_cases h:p.1=k
  ·rw[A7 h];by_cases e:p.1=j
   ·rw[cV (p:=(p.1,y)) e,cV e,Option.map_some,A7 (e.symm.trans h)]
   ·rw[cJ (p:=(p.1,y)) e,cJ e,ih]
  ·rw[A6 h];by_cases e:p.1=j
   ·rw[cV (p:=p) e,cV e,Option.map_some,A6 (fun z=>h (Xz z))]
   ·rw[cJ (p:=p) e,cJ e,ih]
theorem aae(k j:_) (y):∀kvs:List (κ×V),bH kvs k=none→bH (kvs++[(k,y)]) j=if j=k then some y else bH kvs j
 |[],_=>by
  by_cases e:k=j
  ·rw[A7 e.symm];exact cV (p:=(k,y)) e
  ·rw[A6 (fun z=>e z.symm)];exact cJ (p:=(k,y)) e
 |p::r,hn=>by
  rw[List.cons_append];have hk:¬p.1=k:=fun z=>by rw[cV z]at hn;cases hn
  rw[cJ hk]at hn;have ih:=aae k j y r hn;by_cases e:p.1=j
  ·rw[cV e,cV e,A6 (fun z=>hk (Xz z))]
  ·rw[cJ e,cJ e,ih]
theorem jH(kvs:List (κ×V))(k j:κ)(y:V):bH lp j=if j=k then some y else bH kvs j:=by
 unfold putK;by_cases a:(kvs.any fun kv=>decide (kv.1=k))=true
 ·rw[A7 a,Ai];rw[iQ]at a;by_cases e:j=k
  ·obtain⟨x,hx⟩:=Option.isSome_iff_exists.mp a;rw[A7 e,e,hx,Option.map_some,if_pos rfl]
  ·rw[A6 e];cases bH kvs j with
   |none=>rfl
   |some x=>rw[Option.map_some,A6 e]
 ·rw[A6 a];refine aae k j y kvs ?_;rw[iQ]at a;cases q:bH kvs k with
  |none=>rfl
  |some x=>rw[q]at a;exact(a rfl).elim
theorem fB(kvs:List (κ×V)) (k) (v):(Kl k v).length≤kvs.length+1:=by
 unfold putK;split
 ·rw[List.length_map];omega
 ·rw[List.length_append,List.length_cons,List.length_nil];omega
theorem ux{kvs:List (κ×V)}{k:κ}(v:V)(h:bH kvs k=none):putK kvs k v=kvs++[(k,v)]:=by
 unfold putK;rw[iQ,h];exact if_neg EN
theorem lz.kN(r:lz o u):o.isSome=u.isSome:=by
 cases o with
 |none=>cases u with
  |none=>rfl
  |some _=>exact(show False from r).elim
 |some _=>cases u with
  |none=>exact(show False from r).elim
  |some _=>rfl
theorem lz.getD{d}(r:lz o u)(rd:RelV d d'):RelV (o.getD d) (u.getD d'):=by
 cases o with
 |none=>cases u with
  |none=>exact rd
  |some _=>exact(show False from r).elim
 |some _=>cases u with
  |none=>exact(show False from r).elim
  |some _=>exact r
theorem KV.val{kvs:List (κ×V)}{vs:List (κ×Value)}(r:KV kvs vs)(k:κ):lz (M7 k) (valueAt vs k):=by
 unfold KV at r
 induction r with
 |nil=>exact True.intro
 |@cons p q ps qs h t ih=>
  obtain⟨h1,h2⟩:=h;by_cases e:p.1=k
  ·have e':q.1=k:=h1.symm.trans e;have b:valueAt (q::qs) k=some q.2:=by simp[valueAt,List.find?_cons,e']
   rw[cV e,b];exact h2
  ·have e':¬q.1=k:=fun z=>e vH
   have b:valueAt (q::qs) k=valueAt qs k:=by simp[valueAt,List.find?_cons,e']
   rw[cJ e,b];exact ih
theorem KV.any(r:KV kvs vs)(k:κ):(kvs.any fun kv=>decide (kv.1=k))=vs.any fun kv=>decide (kv.1=k):=by
 unfold KV at r
 induction r with
 |nil=>rfl
 |cons h t ih=>rw[List.any_cons,List.any_cons,ih,h.1]
theorem KV.Ng(r:KV kvs vs)(k:κ)(ry:RelV y u):
  KV (kvs.map fun kv=>if kv.1=k then(kv.1,y)else kv) (vs.map fun kv=>if kv.1=k then(kv.1,u)else kv):=by
 unfold KV at r⊢
 induction r with
 |nil=>exact .nil
 |@cons p q ps qs h t ih=>
  rw[List.map_cons,List.map_cons];refine .cons ?_ ih;obtain⟨h1,h2⟩:=h;by_cases e:p.1=k
  ·rw[A7 e,A7 awf];exact⟨h1,ry⟩
  ·rw[A6 e,A6 xm];exact⟨h1,h2⟩
theorem KV.put{kvs:List (κ×V)}{vs:List (κ×Value)}(r:KV kvs vs)(k:κ){y:V}{u:Value}(ry:RelV y u):KV lp (stored vs k u):=by
 unfold putK stored;rw[r.any k];by_cases e:(vs.any fun kv=>decide (kv.1=k))=true
 ·rw[A7 e,A7 e];exact r.Ng k ry
 ·rw[A6 e,A6 e];exact Paired.snoc r ⟨rfl,ry⟩
theorem KV.length{kvs:List (κ×V)}{vs:List (κ×Value)}(r:KV kvs vs):kvs.length=vs.length:=Oa r
theorem aao(kvs:List (κ×V)) (k):(qX k).length≤kvs.length:=List.length_filter_le _ _
end
theorem xx(r:RelV (kV k) u):(Oe P).is k u=true:=by
 cases k with
 |inl i=>obtain⟨t,e⟩:=(show ∃t,u=Value.int i t from r);subst e;exact arp P w i t
 |inr x=>obtain⟨t,e⟩:=(show ∃t,u=Value.str x t from r);subst e;exact aiu P w x t
theorem aaf:∀{ks:List Key}{us:List Value},Vals ZY us→ItemsAre KL ks us
 |[],_,r=>by rw[List.map_nil]at r;cases r;exact .nil
 |k::ks,_,r=>by
  rw[List.map_cons]at r;cases r with
  |cons h t=>exact .cons (xx h) (aaf t)
abbrev KT(H:Hp):List (List Key×V)→List (List Key×Addr×Value)→Prop:=Paired fun p q=>p.1=q.1∧H q.2.1=some (.tup (p.1.map kV))∧RelV p.2 q.2.2
theorem KT.val(r:KT H kvs xs) (k):lz (M7 k) ((WM k).map (·.2)):=by
 induction r with
 |nil=>exact True.intro
 |@cons p q ps qs h t ih=>
  obtain⟨h1,_,h2⟩:=h;by_cases e:p.1=k
  ·have e':q.1=k:=h1.symm.trans e;have b:atKey (q::qs) k=some q.2:=by simp[atKey,List.find?_cons,e']
   rw[cV e,b];exact h2
  ·have e':¬q.1=k:=fun z=>e vH
   have b:atKey (q::qs) k=atKey qs k:=by simp[atKey,List.find?_cons,e']
   rw[cJ e,b];exact ih
theorem KT.Ng(r:KT H kvs xs) (k) (ry:RelV y u):
  KT H (kvs.map fun kv=>if kv.1=k then(kv.1,y)else kv) (MI (putAt k u)):=by
 induction r with
 |nil=>exact .nil
 |@cons p q ps qs h t ih=>
  rw[List.map_cons,List.map_cons];refine .cons ?_ ih;obtain⟨h1,h2,h3⟩:=h;unfold putAt;by_cases e:p.1=k
  ·rw[A7 e,A7 awf];exact⟨h1,h2,ry⟩
  ·rw[A6 e,A6 xm];exact⟨h1,h2,h3⟩
theorem KT.put(r:KT H kvs xs) (k) {b} (hb:H b=some (.tup K0)) (ry:RelV y u):
  KT H lp (storedH xs k b u):=by
 have e:(kvs.any fun kv=>decide (kv.1=k))=(WM k).isSome:=by
  rw[iQ,(r.val k).kN,Option.isSome_map]
 unfold putK storedH;rw[e];by_cases q:(WM k).isSome=true
 ·rw[A7 q,A7 q];exact r.Ng k ry
 ·rw[A6 q,A6 q];exact Paired.snoc r ⟨rfl,hb,ry⟩
theorem KT.keeps(r:KT H kvs xs)(ht:∀b ys,H b=some (.tup ys)→H' b=some (.tup ys)):KT H' kvs xs:=
 Paired.MP r fun _ _ z=>⟨z.1,ht _ _ z.2.1,z.2.2⟩
section
variable{P:Program}{w:World}{H:Hp}{h:Heap}{a:Addr}
theorem LL(ok:mH P w H h)(e:Rd H a u):dA P w H h a u:=e.ok ok
theorem uy(ok:mH P w H h)(e:Rd H a (.dK kvs)):kvs.length≤sizeLine∧(a==sysModules)=false∧∃vs,KV kvs vs∧h.DictOf KL a vs:=
 show dA P w H h a (.dK kvs)from LL ok e
theorem agf(ok:mH P w H h)(e:H a=some (.dK kvs)):kvs.length≤sizeLine∧(a==sysModules)=false∧∃vs,KV kvs vs∧h.DictOf KL a vs:=uy ok (.inl e)
theorem abI{ks}(ok:mH P w H h)(e:H a=some (.tup ZY)):(OQ KL).is h ks a:=by
 obtain⟨_,its,r,o,h1,h2,n,h3⟩:=(show dA P w H h a (.tup ZY)from ok a _ e)
 exact⟨o,its.toArray,n,h1,h2,h3,by simpa using aaf r⟩
theorem uz(ok:mH P w H h)(e:Rd H a (.dT kvs)):kvs.length≤sizeLine∧(a==sysModules)=false∧
  ∃xs,KT H kvs xs∧h.DictOfH Yu a xs:=by
 obtain⟨z,y,xs,r,o,es,ep,h1,h2,h3,h4,h5⟩:=(show dA P w H h a (.dT kvs)from LL ok e)
 refine⟨z,y,xs,r,o,es,ep,h1,h2,h3,h4,fun x hx=>?_,h5⟩;have all:∀{l:List (List Key×V)}{m:List (List Key×Addr×Value)},KT H l m→∀x∈m,(OQ KL).is h x.1 x.2.1:=by
  intro l m q
  induction q with
  |nil=>intro x hx;exact nomatch hx
  |@cons p q ps qs hq t ih=>
   intro x hx;rcases List.mem_cons.mp hx with e|hx
   ·subst e;exact abI ok (by rw[←hq.1];exact hq.2.1)
   ·exact ih x hx
 exact all r x hx
theorem LM(ok:mH P w H h)(e:H a=some (.dT kvs)):kvs.length≤sizeLine∧(a==sysModules)=false∧
  ∃xs,KT H kvs xs∧h.DictOfH Yu a xs:=uz ok (.inl e)
end
def kO(H:Hp)(a:Addr)(y:V)(r:Option V):Prop:=
 (∃kvs k,Rd H a (.dK kvs)∧y=kV k∧r=bH kvs k)∨∃kvs k b,Rd H a (.dT kvs)∧y= .ref b∧H b=some (.tup K0)∧r=bH kvs k
def JU(H:Hp)(a:Addr)(y v:V)(H':Hp):Prop:=
 (∃kvs k,H a=some (.dK kvs)∧y=kV k∧kvs.length<sizeLine∧H'=upd H a (.dK qM))∨
 ∃kvs k b,H a=some (.dT kvs)∧y= .ref b∧H b=some (.tup K0)∧kvs.length<sizeLine∧H'=upd H a (.dT qM)
theorem kO.t{a b}{k}(e:H a=some (.dT kvs))(eb:H b=some (.tup K0)):kO H a (.ref b) (M7 k):= .inr ⟨kvs,k,b, .inl e,rfl,eb,rfl⟩
theorem JU.t{a b}{k}(e:H a=some (.dT kvs))(eb:H b=some (.tup K0))(hl:kvs.length<sizeLine):
  JU H a (.ref b) v (Hf (.dT qM)):= .inr ⟨kvs,k,b,e,rfl,eb,hl,rfl⟩
section
variable{X:Cx}{pins:List (Addr×Obj)}{σ:St}{H:Hp}{s:Shared}{a:Addr}{y v:V}{u r:Value}{o:Option V}{A:Around}{E:Value→Shared→Prop}
theorem Inv.big(I:Inv X pins σ H s):sysModules<s.heap.objs.size:=by
 have h:mainGlobals<s.heap.objs.size:=(jU I.bk).lt;exact Nat.lt_trans EN h
theorem akk(hu:A.units+1<cLine)(I:Inv X pins σ H s)(g:kO H a y (some v))(ry:RelV y u)(h:∀w' s',Inv X pins σ H s'→RelV v w'→Q w' s'):
  wpAny Ak A (getItem (.ref a) u) Q E s:=by
 rcases g with⟨kvs,k,e,ey,l⟩|⟨kvs,k,b,e,ey,eb,l⟩
 ·subst ey;obtain⟨z,hd,vs,rel,dd⟩:=ZF e;obtain⟨w',hw,il⟩:=lz.some_of (v:=v) (o:=valueAt vs k) (by rw[l];exact H_ k);exact wpAny_getItem_of (xx ry) dd.mapOf hw (j6 w' il)
 ·subst ey;cases(show u=Value.ref b from ry);obtain⟨z,hd,xs,rel,dd⟩:=Sz e;obtain⟨w',hw,il⟩:=lz.some_of (v:=v) (o:=(WM k).map (·.2)) (by rw[l];exact H_ k);obtain⟨p,hp,BX⟩:=YK hw;refine wpAny_getItem_heap kf (NQ eb) dd hp ?_;rw[BX];exact j6 w' il
theorem aeI(hu:A.units+1<cLine)(I:Inv X pins σ H s)(g:kO H a y o)(ry:RelV y u)(h:∀s',Inv X pins σ H s'→Q (.bool o.isSome) s'):
  wpAny Ak A (compareOp .In u (.ref a)) Q E s:=by
 rcases g with⟨kvs,k,e,ey,l⟩|⟨kvs,k,b,e,ey,eb,l⟩
 ·subst ey;obtain⟨z,hd,vs,rel,dd⟩:=ZF e;refine wpAny_in_of (xx ry) hd dd.mapOf ?_;rw[←(H_ k).kN,←l];exact h _ (I.tok _)
 ·subst ey;cases(show u=Value.ref b from ry);obtain⟨z,hd,xs,rel,dd⟩:=Sz e;refine wpAny_in_heap kf (NQ eb) hd dd ?_;have q:=(H_ k).kN;rw[Option.isSome_map]at q;rw[←q,←l];exact h _ (I.tok _)
theorem ajE(hu:A.units+1<cLine)(I:Inv X pins σ H s)(g:kO H a y o)(ry:RelV y u)(h:∀s',Inv X pins σ H s'→Q (.bool (!o.isSome)) s'):
  wpAny Ak A (compareOp .NotIn u (.ref a)) Q E s:=by
 rcases g with⟨kvs,k,e,ey,l⟩|⟨kvs,k,b,e,ey,eb,l⟩
 ·subst ey;obtain⟨z,hd,vs,rel,dd⟩:=ZF e;refine wpAny_notIn_of (xx ry) hd dd.mapOf ?_;rw[←(H_ k).kN,←l];exact h _ (I.tok _)
 ·subst ey;cases(show u=Value.ref b from ry);obtain⟨z,hd,xs,rel,dd⟩:=Sz e;refine wpAny_notIn_heap kf (NQ eb) hd dd ?_;have q:=(H_ k).kN;rw[Option.isSome_map]at q;rw[←q,←l];exact h _ (I.tok _)
theorem x_(I:Inv X pins σ H s)(mu:Qn (H a))(hs:Heap.SameBut a s.heap h')(he:∃q,h'.get? a=some q)(new:dA X.prog X.w (Hf ob) h' a ob):
  Inv X pins σ (Hf ob) {s with heap:=h',toks:=t'}:=
 I.write (x:=a) (e:=a) mu (.inl rfl) (fun b q hb z=>(hs.2 b hb).trans z) he new
theorem arD{h'}{kvs}(z:kvs.length≤sizeLine)(hd:(a==sysModules)=false)(rel:KV kvs vs)(dd:h'.DictOf KL a vs):
  dA P w H' h' a (.dK kvs):=⟨z,hd,vs,rel,dd⟩
theorem atq(hu:A.units+1<cLine)(I:Inv X pins σ H s)(g:JU H a y v H')(ry:RelV y u)(rv:RelV v r)(h:∀s',Inv X pins σ H' s'→Q () s'):
  wpAny Ak A (setItem (.ref a) u r) Q E s:=by
 rcases g with⟨kvs,k,e,ey,l,eH⟩|⟨kvs,k,b,e,ey,eb,l,eH⟩
 ·subst ey eH;obtain⟨z,hd,vs,rel,dd⟩:=agf I.cc e;have hz:vs.length≤sizeLine:=by rw[←rel.length];exact z
  have hl:(Kl k v).length≤sizeLine:=by have:=fB kvs k v;omega
  refine wpAny_setItem_pairs (hsz:=hz) (xx ry) dd fun h' LN hs=>h _ ?_
  have he:∃q,h'.get? a=some q:=let ⟨q,_,_,hq,_⟩:=LN;⟨q,hq⟩
  exact x_ I (by rw[e];exact True.intro) hs he (arD hl hd (rel.put k rv) LN)
 ·subst ey eH;cases(show u=Value.ref b from ry);obtain⟨z,hd,xs,rel,dd⟩:=LM I.cc e;have hz:xs.length≤sizeLine:=by rw[←Oa rel];exact z
  have hl:(Kl k v).length≤sizeLine:=by have:=fB kvs k v;omega
  refine wpAny_setItem_heap (hsz:=hz) (Vv hu) (NQ eb) dd fun h' LN hs=>h _ ?_
  obtain⟨q,es,ep,hq,h2,h3,h4,_,h5⟩:=LN;refine x_ I (by rw[e];exact True.intro) hs ⟨q,hq⟩ ⟨hl,hd,_,(rel.put k eb rv).keeps fun c ys ec=>?_,q,es,ep,hq,h2,h3,h4,h5⟩;rw[aq (jC ec e (fun z=>nomatch z))];exact ec
end
section
variable{X:Cx}{pins:List (Addr×Obj)}{σ:St}{H:Hp}{s:Shared}{a:Addr}{kvs:List (Key×V)}{k:Key}{u:Value}{A:Around}{E:Value→Shared→Prop}
end
def acm(i:Expr):Prop:=∀ov iv,subscripted i false ov iv=operate [ov,iv] (getItem ov iv)
theorem aqv{prog}{w}{A}{E}{s}{env}{value slice}{pos}{T id}{Q}
  (hl:typeLookup (.type T) "__getitem__"=pure (some (.builtin id))) (hs:acm slice)
  (h:wpAny AR A (eval value env) (fun o cf=>ZU (eval slice env) (fun i rk=>rk.TypeIs o T∧wpAny AR A (getItem o i) Q E rk) cf) E s):
  wpAny AR A (eval (.Subscript value slice pos) env) Q E s:=by
 refine Subscript_ (wpAny_mono h (fun o cf ER=>wpAny_mono ER (fun i rk GO=>?_) fun _ _ x=>x) fun _ _ x=>x);obtain⟨hT,GO⟩:=GO;unfold subscriptTail;refine wpAny_bind ?_;rw[getitemInPython_of_ne hT.not_modules];refine wpAny_bind (kr hT hl);have fin:wpAny AR A (subscripted slice false o i) (fun r ES=>ZU (letTemporaryGo value o r>>=fun _=>BQ r) Q ES) E rk:=by
  rw[hs o i];exact wpAny_operating (wpAny_mono GO (fun r ES JX=>Ax (wpAny_letTemporaryGo (B2 JX))) fun _ _ x=>x)
 first
  |exact B2 (Ax fin)
  |exact Ax (B2 (Ax fin))
  |exact Ax fin
theorem auA{a}(I:Inv X pins σ H s)(g:kO H a y o):s.TypeIs (.ref a) "dict":=by
 rcases g with⟨kvs,k,e,_,_⟩|⟨kvs,k,b,e,_,_,_⟩
 ·obtain⟨_,_,vs,_,dd⟩:=uy I.cc e;exact dd.typeIs
 ·obtain⟨_,_,xs,_,dd⟩:=uz I.cc e;exact dd.typeIs
def auB(td ty:TE):TE:=fun σ H Q=>td σ H fun x H1=>ty σ H1 fun y H2=>∃a v,x= .ref a∧kO H2 a y (some v)∧Q v H2
def agS(ty td:TE):TE:=fun σ H Q=>ty σ H fun y H1=>td σ H1 fun x H2=>∃a o,x= .ref a∧kO H2 a y o∧Q (.bl o.isSome) H2
def aok(ty td:TE):TE:=fun σ H Q=>ty σ H fun y H1=>td σ H1 fun x H2=>∃a o,x= .ref a∧kO H2 a y o∧Q (.bl (!o.isSome)) H2
def adk(td ty tv:TE):TS:=fun D σ H=>tv σ H fun v H1=>td σ H1 fun x H2=>ty σ H2 fun y H3=>∃a H4,x= .ref a∧JU H3 a y v H4∧D.nx σ H4
section
variable{X:Cx}{o i e value:Expr}{pos pos' aoM:Pos}{td ty tv:TE}
theorem jg(hu:X.A.units+1<cLine)(ho:PE X o td)(hi:PE X i ty)(hs:acm i):PE X (.Subscript o i pos) (auB td ty):=by
 intro pins s σ H Q I h;refine aqv PySem.F.slot_dict_getitem.lookup hs (cU Nc fun u s1 ⟨x,H1,I1,rx,q1⟩=>cU t_ fun iv s2 ⟨y,H2,I2,ry,a,v,ex,g,q2⟩=>?_);subst ex;obtain rfl:u=Value.ref a:=rx;exact⟨auA I2 g,akk hu I2 g ry fun w' s3 I3 il=>⟨v,H2,I3,il,q2⟩⟩
theorem rB(hu:X.A.units+1<cLine)(hi:PE X i ty)(ho:PE X o td):PC X .In i o (agS ty td):=by
 intro pins s σ H Q I h;refine cU Xe fun iv s1 ⟨y,H1,I1,ry,q1⟩=>cU pD fun u s2 ⟨x,H2,I2,rx,a,ov,ex,g,q2⟩=>?_
 subst ex;obtain rfl:u=Value.ref a:=rx;exact aeI hu I2 g ry fun s3 I3=>⟨.bl ov.isSome,H2,I3,rfl,q2⟩
theorem amy(hu:X.A.units+1<cLine)(hi:PE X i ty)(ho:PE X o td):PC X .NotIn i o (aok ty td):=by
 intro pins s σ H Q I h;refine cU Xe fun iv s1 ⟨y,H1,I1,ry,q1⟩=>cU pD fun u s2 ⟨x,H2,I2,rx,a,ov,ex,g,q2⟩=>?_
 subst ex;obtain rfl:u=Value.ref a:=rx;exact ajE hu I2 g ry fun s3 I3=>⟨.bl (!ov.isSome),H2,I3,rfl,q2⟩
theorem adB(hu:X.A.units+1<cLine)(ho:PE X o td)(hi:PE X i ty)(hv:PE X value tv)(hs:swapsWith value (some (.Subscript o i pos')) pos.line X.env=pure false):
  PS X (.Assign [.Subscript o i pos'] value pos) (adk td ty tv):=by
 intro pins s σ H D I h;refine wpAny_Assign_Subscript (cU auP fun r s1 ⟨v,H1,I1,rv,q1⟩=>cU pD fun u s2 ⟨x,H2,I2,rx,q2⟩=>cU (qA s2 H2 I2 q2) fun iv s3 ⟨y,H3,I3,ry,a,H4,ex,g,q3⟩=>?_) hs;subst ex;obtain rfl:u=Value.ref a:=rx;exact atq hu I3 g ry rv fun s4 I4=>⟨σ,H4,I4,q3⟩
end
theorem atF(h:Heap)(hb:sysModules<h.objs.size):dA P w H (h.push {cls:= .type "dict",data:= .dict #[]}) h.objs.size (.dT []):=
 ⟨Nat.zero_le _,ο (Ay (Dn hb)),[], .nil,_,#[],0,Heap.get?_push_size _ rfl,⟨rfl,rfl,rfl⟩,rfl,rfl,List.nodup_nil⟩
def aeF:TE:=fun _ H Q=>∀p,H p=none→Q (.ref p) (Ea p (.dT []))
section
variable{X:Cx}{pos:Pos}
theorem kP:PE X (.Dict [] [] pos) aeF:=fun pins s σ H Q I h=>
 wpAny_Dict_empty ⟨.ref s.heap.objs.size,_,I.laid (a:=s.heap.objs.size) (o:= .dT []) (t':=s.toks) (fun _ _ q=>BL q) (Nat.le_refl _) (atF s.heap I.big),rfl,h _ (HA Bj)⟩
end
structure M1(X:Cx)(o:Expr)(m:Str)(apos:Pos)(e:Expr)(fe:Pos):Prop where
 base:attributeBase o m X.env (eval o X.env)=eval o X.env
 Bz:((backTo fe (sT [e])).all (fun x=>!x.1)&&(HL fe).all tF
  &&decide (([e]:List Expr).length+([]:List Keyword).length+(if ([]:List Keyword).isEmpty then 0 else 1)<30))=true
 line:(apos.endLine==fe.line)=true
 trees:backTo fe (sT [e])=[(false,eval e X.env)]
def Vw(H:Hp)(a:Addr):Prop:=(∃kvs,Rd H a (.dK kvs))∨∃kvs,Rd H a (.dT kvs)
theorem adG{a}(I:Inv X pins σ H s)(d:Vw H a):
  s.TypeIs (.ref a) "dict"∧(∀b,Value.ref a= .ref b→∃ob,s.heap.get? b=some ob∧ob.dict=none)∧(a==sysModules)=false:=by
 rcases d with⟨kvs,e⟩|⟨kvs,e⟩
 ·obtain⟨_,hd,vs,_,dd⟩:=uy I.cc e;refine⟨dd.typeIs,fun b q=>?_,hd⟩;cases q;obtain⟨ob,_,_,h1,h2,_⟩:=dd;exact⟨ob,h1,h2.2.1⟩
 ·obtain⟨_,hd,xs,_,dd⟩:=uz I.cc e;refine⟨dd.typeIs,fun b q=>?_,hd⟩;cases q;obtain⟨ob,_,_,h1,h2,_⟩:=dd;exact⟨ob,h1,h2.2.1⟩
section
variable{X:Cx}{pins:List (Addr×Obj)}{σ:St}{H:Hp}{s:Shared}{a:Addr}{y d:V}{u r:Value}{o:Option V}{A:Around}{E:Value→Shared→Prop}
theorem akH(hu:A.units+1<cLine)(I:Inv X pins σ H s)(g:kO H a y o)(ry:RelV y u)(h:∀w' s',Inv X pins σ H s'→RelV (o.getD .de) w'→Q w' s'):
  wpAny Ak A (call (.builtin "dict.get") [.ref a,u]) Q E s:=by
 rcases g with⟨kvs,k,e,ey,l⟩|⟨kvs,k,b,e,ey,eb,l⟩
 ·subst ey;obtain⟨z,hd,vs,rel,dd⟩:=ZF e;refine call_meetsIn PySem.F.slot_dict_get dd.typeIs PySem.F.entry_dict_get vP (meets_dict_get p4 a (xx ry) hd) ⟨_,dd.mapOf,HB (I.tok _) ?_⟩;rw[l];exact(H_ k).getD rfl
 ·subst ey;cases(show u=Value.ref b from ry);obtain⟨z,hd,xs,rel,dd⟩:=Sz e;refine call_meetsIn PySem.F.slot_dict_get dd.typeIs PySem.F.entry_dict_get vP (meetsH_dict_get (OQ p4) a b hd) ⟨Vv hu,k,xs,NQ eb,dd,HB (I.tok _) ?_⟩;rw[l];exact(H_ k).getD rfl
end
def akr(td ty:TE):TE:=fun σ H Q=>td σ H fun x H1=>∃a,x= .ref a∧Vw H1 a∧ty σ H1 fun y H2=>∃o,kO H2 a y o∧Q (o.getD .de) H2
section
variable{X:Cx}{o e f:Expr}{apos fe:Pos}{td ty tx:TE}
theorem GR(hu:X.A.units+1<cLine)(ho:PE X o td)(he:PE X e ty)(m:M1 X o "get" apos e fe):PE X (.Call (.Attribute o "get" apos) [e] [] fe) (akr td ty):=by
 intro pins s σ H Q I h;refine wpAny_Call_method m.base m.Bz m.line PySem.F.plainAttrs_dict PySem.F.slot_dict_get PySem.F.type_dict_get (cU Nc fun u s1 ⟨x,H1,I1,rx,a,ex,d,q1⟩=>?_);subst ex;obtain rfl:u=Value.ref a:=rx;obtain⟨t1,t2,_⟩:=adG I1 d;refine⟨t1,t2,?_⟩;rw[m.trees];refine Calls.callWith_builtin rfl (Zh (wR (cU vQ fun iv s2 ⟨y,H2,I2,ry,ov,g,q2⟩=>NM ?_)));exact akH hu I2 g ry fun w' s3 I3 il=>⟨_,H2,I3,il,q2⟩
end
section
variable{X:Cx}{pins:List (Addr×Obj)}{σ:St}{H:Hp}{s:Shared}{a:Addr}{kvs:List (Key×V)}{A:Around}{E:Value→Shared→Prop}
end
section
variable{X:Cx}{pins:List (Addr×Obj)}{σ:St}{H:Hp}{s:Shared}{a:Addr}{y:V}{u:Value}{A:Around}{E:Value→Shared→Prop}
end
end L2
namespace HT
open PySem PyProof.Rows
section
open PySem.SeqAt
open PySem.AutoSeq1 (wpAny_loadPart')
open PySem.MeetsSeq PySem.MeetsSeq2 PySem.MeetsSeq3
end
section
variable{prog:Program}{w:World}{A:Around}{E:Value→Shared→Prop}{s:Shared}
def lD(n d:Nat):Option Int→Nat
 |none=>d
 |some v=>if v<0 then(v+(n:Int)).toNat else min v.toNat n
theorem afj(n d:_):lD n d none=d:=rfl
theorem GV(n d:_)(hd:d≤n) (o):lD n d o≤n:=by
 cases o with
 |none=>exact hd
 |some v=>
  show(if v<0 then(v+(n:Int)).toNat else min v.toNat n)≤n;by_cases hv:v<0
  ·rw[A7 hv];omega
  ·rw[A6 hv];exact Nat.min_le_right _ _
end
end HT
namespace L2
open PySem PySem.Spec PyProof.Rows
abbrev TO:=St→Hp→(Option Int→Hp→Prop)→Prop
def PO(X:Cx)(e:Option Expr)(t:TO):Prop:=
 ∀(pins:List (Addr×Obj))(s:Shared)(σ:St)(H:Hp)(Q:Option Int→Hp→Prop),Inv X pins σ H s→t σ H Q→
  wpAny Ak X.A (evalPart e X.env) (fun u s'=>∃o H',Inv X pins σ H' s'∧IsPart u o∧Q o H') X.xe s
def amI:TO:=fun _ H Q=>Q none H
def atr(t:TE):TO:=fun σ H Q=>t σ H fun x H1=>∃i,x= .int i∧Q (some i) H1
section
variable{X:Cx}{e:Expr}{te:TE}{lo hi:Option Expr}{tl th:TO}{pos p2:Pos}
theorem ya:PO X none amI:=by
 intro pins s σ H Q I h;rw[evalPart_none];exact B2 ⟨none,H,I, .none,h⟩
theorem aeu(h:PE X e te):PO X (some e) (atr te):=by
 intro pins s σ H Q I hw;rw[evalPart_some];refine cU ZN fun u s1 ⟨x,H1,I1,r1,q1⟩=>?_
 obtain⟨i,rfl,q⟩:=q1;obtain⟨t,rfl⟩:=r1;exact⟨some i,H1,I1, .int i t,q⟩
def Tq(X:Cx)(r:V→Option Int→Option Int→Hp→VK→Prop):Prop:=
 ∀(pins:List (Addr×Obj))(s:Shared)(σ:St)(H:Hp)(x:V)(v vl vu:Value)(lo hi:Option Int)(sl:Addr)(Q:VK),Inv X pins σ H s→RelV x v→s.heap.IsSliceOf sl vl vu .none→IsPart vl lo→IsPart vu hi→r x lo hi H Q→
  ∃T id,typeLookup (.type T) "__getitem__"=pure (some (.builtin id))∧s.TypeIs v T∧wpAny Ak X.A (getItem v (.ref sl)) (DR Q) X.xe s
def asL(r:V→Option Int→Option Int→Hp→VK→Prop)(te:TE)(tl th:TO):TE:=fun σ H Q=>te σ H fun x H1=>tl σ H1 fun l H2=>th σ H2 fun u H3=>r x l u H3 Q
theorem awN{r}(hr:Tq X r)(he:PE X e te)(hl:PO X lo tl)(hu:PO X hi th):PE X (.Subscript e (.Slice lo hi none p2) pos) (asL r te tl th):=by
 intro pins s σ H Q I h;refine Subscript_ (cU Fj fun v s1 ⟨x,H1,I1,r1,q1⟩=>?_);refine wpAny_Slice (cU (yI s1 H1 I1 q1) fun vl s2 ⟨l,H2,I2,pl,q2⟩=>cU (hu pins s2 σ H2 _ I2 q2) fun vu s3 ⟨u,H3,I3,pu,q3⟩=>?_);rw[evalPart_none];refine wpAny_pure ?_;have I4:Inv X pins σ H3 {s3 with heap:=s3.heap.push {cls:= .type "slice",data:= .fields #[vl,vu, .none]}}:=I3.kept (t':=s3.toks) fun b ob q=>BL q
 obtain⟨T,id,hT,ht,hg⟩:=hr pins {s3 with heap:=s3.heap.push {cls:= .type "slice",data:= .fields #[vl,vu, .none]}} σ H3 x v vl vu l u s3.heap.objs.size Q I4 r1 (Heap.IsSliceOf.new ..) pl pu q3;show wpAny Ak X.A (subscriptTail e (.Slice lo hi none p2) v (.ref s3.heap.objs.size)) (DR Q) X.xe {s3 with heap:=s3.heap.push {cls:= .type "slice",data:= .fields #[vl,vu, .none]}};exact tail_any (ops:=[.ref s3.heap.objs.size,v]) ht hT hg (by with_unfolding_all rfl)
def ET(xs:List V)(lo hi:Option Int):List V:=(xs.drop uE).take (HT.lD xs.length xs.length hi-HT.lD xs.length 0 lo)
theorem anR (xs) (lo hi:_):(ET xs lo hi).length≤xs.length:=by
 unfold ET;rw[List.length_take,List.length_drop];omega
end
def GW(n:Nat)(i:Int):Option Nat:=if 0≤i then(if i<n then some i.toNat else none)else if-(n:Int)≤i then some (i+n).toNat else none
def uc{α:Type}(xs:List α)(i:Int):Option α:=(GW xs.length i).bind fun j=>xs[j]?
theorem DD(h:GW n i=some j):seqIndex? i n=some j∧j<n∧-(n:Int)≤i∧i<n:=by
 unfold GW at h;by_cases h0:0≤i
 ·rw[A7 h0]at h;by_cases h1:i<n
  ·rw[A7 h1]at h;have e:i.toNat=j:=Aw h;exact⟨by rw[ko h1,e],by omega,by omega,h1⟩
  ·rw[A6 h1]at h;cases h
 ·rw[A6 h0]at h;by_cases h1:-(n:Int)≤i
  ·rw[A7 h1]at h;have e:(i+n).toNat=j:=Aw h;exact⟨by rw[jz h1,e],by omega,h1,by omega⟩
  ·rw[A6 h1]at h;cases h
theorem yb{α:Type}{xs:List α}{v:α}(h:uc xs i=some v):∃j,seqIndex? i xs.length=some j∧xs[j]?=some v∧j<xs.length∧-(xs.length:Int)≤i∧i<xs.length:=by
 unfold uc at h;cases e:GW xs.length i with
 |none=>rw[e]at h;cases h
 |some j=>
  rw[e]at h;obtain⟨h1,h2,h3,h4⟩:=DD e;exact⟨j,h1,h,h2,h3,h4⟩
theorem ar{α:Type}{xs:List α}{j:Nat}{v:α}(h:xs[j]?=some v):uc xs (j:Int)=some v:=by
 have hj:j<xs.length:=(AM h).1;have e:GW xs.length (j:Int)=some j:=by
  unfold GW;rw[if_pos DH,if_pos DH];simp
 unfold uc;rw[e];exact h
theorem aby{α:Type}(xs:List α) (v):uc (xs++[v]) (-1)=some v:=by
 have hl:(xs++[v]).length=xs.length+1:=AA;have e:GW (xs++[v]).length (-1)=some xs.length:=by
  unfold GW;rw[hl,if_neg EN,if_pos DH]
  congr 1
  omega
 unfold uc;rw[e];show(xs++[v])[xs.length]?=some v;simp
def agV(b:Expr):Prop:=∀o i,subscripted b false o i=operate [o,i] (getItem o i)
def Pk(X:Cx)(r:R2):Prop:=
 ∀(value slice:Expr)(pins:List (Addr×Obj))(s:Shared)(σ:St)(H:Hp)(x y:V)(v u:Value)(Q:VK),Inv X pins σ H s→RelV x v→RelV y u→r x y H Q→
  subscripted slice false v u=operate [v,u] (getItem v u)→wpAny Ak X.A (subscriptTail value slice v u) (DR Q) X.xe s
def Tr(X:Cx)(id:String)(r:V→List V→Hp→VK→Prop):Prop:=
 ∀(pins:List (Addr×Obj))(s:Shared)(σ:St)(H:Hp)(x:V)(xs:List V)(v:Value)(us:List Value)(Q:VK),Inv X pins σ H s→RelV x v→Vals xs us→r x xs H Q→
  wpAny Ak X.A (call (.builtin id) (v::us)) (DR Q) X.xe s
section
variable{X:Cx}{a b:Expr}{ta tb:TE}{pos:Pos}
theorem ay{r}(hr:Pk X r)(ha:PE X a ta)(hb:PE X b tb)(hs:agV b):PE X (.Subscript a b pos) (Xj r):=by
 intro pins s σ H Q I h;exact Subscript_ (M9 ha hb I h fun v u s2 x y H2 I2 rx ry q=>hr a b pins s2 σ H2 x y v u Q I2 rx ry q (hs _ _))
inductive Nl(K:PySem.W.Frag)(x:V)(y:V)(H:Hp)(Q:VK):Prop
 |mk (p) (xs) (i) (v) (_:x= .ref p) (_:y= .int i) (_:gF K H p xs) (_:uc xs i=some v) (_:Q v H):Nl K x y H Q
inductive Nm(K:PySem.W.Frag)(x:V)(y:V)(H:Hp)(Q:VK):Prop
 |mk (p) (xs) (i) (v) (_:x= .ref p) (_:y= .int i) (_:Gy K H p xs) (_:uc xs i=some v) (_:Q v H):Nm K x y H Q
inductive QY(x:V)(y:V)(H:Hp)(Q:VK):Prop
 |mk (z) (i) (c) (_:x= .str z) (_:y= .int i) (_:z.length≤sizeLine) (_:uc z.cps.toList i=some c) (_:Q (.str ⟨#[c]⟩) H):QY x y H Q
theorem ahs:Pk X (Nl X.K):=by
 intro value slice pins s σ H x y v u Q I rx ry h hs;obtain⟨p,xs,i,z,rfl,rfl,hq,he,q⟩:=h;cases rx;obtain⟨t,rfl⟩:=ry;obtain⟨its,r,pl,hz⟩:=DP hq;obtain⟨j,h1,h2,h3,h4,h5⟩:=yb he;obtain⟨w,ew,il⟩:=r.get h2;have hl:=r.length;have hn:=rn;have fin:EP X pins σ Q w s:=⟨z,H,I,il,q⟩
 by_cases h0:0≤i
 ·have hj:i.toNat=j:=by
   rw[ko h5]at h1;exact Aw h1
  exact item_listR pl.isList h0 DH (by rw[hj];simpa using ew) fin hs
 ·have hj:(i+(its.toArray.size:Int)).toNat=j:=by
   rw[jz h4]at h1;rw[List.size_toArray,←hl];exact Aw h1
  exact subscriptTail_builtinR (x:=w) pl.isList.typeIs slot_list_getitem.lookup
   (wpAny_getItem_list_neg (Q:=fun r s'=>r=w∧EP X pins σ Q r s') pl.isList DH (by rw[List.size_toArray]<;>omega) (by omega) (by rw[hj];simpa using ew) ⟨rfl,fin⟩) hs
theorem asU:Pk X (Nm X.K):=by
 intro value slice pins s σ H x y v u Q I rx ry h hs;obtain⟨p,xs,i,z,rfl,rfl,hq,he,q⟩:=h;cases rx;obtain⟨t,rfl⟩:=ry;obtain⟨its,r,pl,hz⟩:=Wz hq;obtain⟨j,h1,h2,h3,h4,h5⟩:=yb he;obtain⟨w,ew,il⟩:=r.get h2;have hl:=r.length;have hn:=rn;have fin:EP X pins σ Q w s:=⟨z,H,I,il,q⟩
 exact subscriptTail_builtinR (x:=w) pl.typeIs slot_tuple_getitem.lookup
  (getItem_tuple (j:=j) (Q:=fun r s'=>r=w∧EP X pins σ Q r s') pl DH (by omega) (by rw[List.size_toArray,←hl];exact h1) (by simpa using ew) ⟨rfl,fin⟩) hs
theorem aeU:Pk X QY:=by
 intro value slice pins s σ H x y v u Q I rx ry h hs;obtain⟨z,i,c,rfl,rfl,hz,he,q⟩:=h;obtain⟨t,rfl⟩:=rx;obtain⟨t',rfl⟩:=ry;obtain⟨j,h1,h2,h3,h4,h5⟩:=yb he;have hl:z.cps.toList.length=z.length:=by simp[Str.length]
 rw[hl]at h1 h4 h5;have hn:=rn;exact tail_any (typeIs_str s z t) slot_str_getitem.lookup (getItem_str (c:=c) (by
  have e1:decide (i< -(2^63:Int))=false:=decide_eq_false DH;have e2:decide (i≥2^63)=false:=decide_eq_false DH;rw[e1,e2,Bool.or_false]) (by rw[h1];simpa using h2) ⟨.str ⟨#[c]⟩,H,I.tok _,⟨_,rfl⟩,q⟩) hs
theorem aia(its:List Value)(n j:_) (u):Obj.mapSeq (·.setIfInBounds j u) {cls:= .type "list",data:= .seq its.toArray n}={cls:= .type "list",data:= .seq (its.set j u).toArray n}:=by
 simp[Obj.mapSeq]
theorem Inv.lst{pins}{σ}{H}{s}{p}{xs}(I:Inv X pins σ H s)(h:H p=some (.lst xs)):
  ∃(its:List Value)(n:Nat),Vals xs its∧s.heap.get? p=some {cls:= .type "list",data:= .seq its.toArray n}∧xs.length≤sizeLine:=by
 obtain⟨z,its,n,r,e⟩:=I.cc p _ h;exact⟨its,n,r,e,z⟩
theorem Inv.aqP{s:Shared}{p}{ys:List V}{its its':List Value}(I:Inv X pins σ H s)(h:H p=some (.lst xs))
  (ho:s.heap.get? p=some {cls:= .type "list",data:= .seq its.toArray n}) (hf:f {cls:= .type "list",data:= .seq its.toArray n}={cls:= .type "list",data:= .seq its'.toArray n'}) (r:Vals ys its') (hz:ys.length≤sizeLine) (t):
  Inv X pins σ (N3 p) {s with heap:=Th p f,toks:=t}:=by
 have e:(Th p f).get? p=some {cls:= .type "list",data:= .seq its'.toArray n'}:=by
  rw[Heap.get?_update_self f ho (by rw[hf]<;>rfl),hf]
 refine I.write (x:=p) (e:=p) (by rw[h];trivial) (.inl rfl) (fun b u hb q=>(LX (Ay hb)).trans q) ⟨_,e⟩ ?_;exact⟨hz,its',n',r,e⟩
inductive LO(o:V)(i:V)(v:V)(H:Hp)(Q:(Hp→Prop)):Prop
 |mk (p) (xs) (k) (j) (_:o= .ref p) (_:i= .int k) (_:H p=some (.lst xs)) (_:GW xs.length k=some j) (_:Q (zb p)):LO o i v H Q
theorem set_list:QE X LO:=by
 intro pins s σ H o i v ov iv u Q I ro ri rv h;obtain⟨p,xs,k,j,rfl,rfl,hp,hj,q⟩:=h;cases ro;obtain⟨t,rfl⟩:=ri;obtain⟨its,n,r,ho,hz⟩:=I.lst hp;obtain⟨h1,h2,h3,h4⟩:=DD hj;have hl:=r.length;have hn:=rn;have I':Inv X pins σ (zb p) {s with heap:=Th p (GF (·.setIfInBounds j u))}:=
  I.aqP hp ho (aia its n j u) (r.set rv j) (by rw[List.length_set];exact hz) s.toks
 by_cases h0:0≤k
 ·have hk:k.toNat=j:=by
   rw[ko h4]at h1;exact Aw h1
  exact PySem.W.ki_setAt ho h0 DH (by rw[List.size_toArray,←hl];exact h4) (by rw[hk];exact⟨_,I',q⟩)
 ·have hk:(k+(its.toArray.size:Int)).toNat=j:=by
   rw[jz h3]at h1;rw[List.size_toArray,←hl];exact Aw h1
  exact PySem.W.ki_setBack ho DH (by rw[List.size_toArray,←hl];exact h3) (by omega) (by rw[hk];exact⟨_,I',q⟩)
theorem aeA(lo hi:_) (n):(Zq n).1=((HT.lD n 0 lo:Nat):Int)∧(Zq n).2.1=((HT.lD n n hi:Nat):Int)∧(Zq n).2.2=1:=by
 refine⟨?_,?_,rfl⟩
 ·cases lo with
  |none=>simp[sliceBounds,HT.lD]
  |some i=>
   simp only[sliceBounds,HT.lD,Option.getD_none,show(1:Int)>0 by decide,if_true];by_cases h:i<0
   ·simp only[h,if_true]<;>lia
   ·simp only[h,if_false]<;>lia
 ·cases hi with
  |none=>simp[sliceBounds,HT.lD]
  |some i=>
   simp only[sliceBounds,HT.lD,Option.getD_none,show(1:Int)>0 by decide,if_true];by_cases h:i<0
   ·simp only[h,if_true]<;>lia
   ·simp only[h,if_false]<;>lia
theorem ajv(its:List Value)(lo hi:_):slicePick its.toArray lo hi none=((its.drop (bS its.length)).take (HT.lD its.length its.length hi-HT.lD its.length 0 lo)).toArray:=by
 obtain⟨h1,h2,h3⟩:=aeA lo hi its.toArray.size;unfold slicePick;rw[h1,h2,h3];simp only[sliceRange_one,pick_run,List.size_toArray]<;>rfl
inductive Nq(K:PySem.W.Frag)(x:V)(lo:Option Int)(hi:Option Int)(H:Hp)(Q:VK):Prop
 |mk (a:_) (xs) (_:x= .ref a) (_:gF K H a xs) (_:∀p,H p=none→Q (.ref p) (Ea p (.lst axL))):Nq K x lo hi H Q
theorem ate:Tq X (Nq X.K):=by
 intro pins s σ H x v vl vu lo hi sl Q I rx hs pl pu h;obtain⟨a,xs,rfl,hx,q⟩:=h;cases rx;obtain⟨its,r,ht,hz⟩:=DP hx;have hlen:=r.length;refine⟨"list",_,slot_list_getitem.lookup,ht.isList.typeIs,?_⟩;refine wpAny_getItem_list_slice ht.isList hs pl pu .none A9 ?_ (by rw[List.size_toArray]<;>omega);rw[ajv,←hlen];refine⟨.ref s.heap.objs.size,_,I.laid (t':=s.toks) (o:= .lst axL) (fun b ob q=>BL q) (Nat.le_refl _) ?_,rfl,E8 xl⟩;exact⟨E3 (anR xs lo hi) hz,_,0,(r.drop uE).take (HT.lD xs.length xs.length hi-HT.lD xs.length 0 lo),Heap.get?_push_size _ rfl⟩
def s_:V→Bool
 | .de=>true
 | .bl _=>true
 | .int _=>true
 | .str _=>true
 | _=>false
def xB:V→V→Bool
 | .de, .de=>true
 | .bl a, .bl b=>a==b
 | .bl a, .int b=>(if a then 1 else 0)==b
 | .int a, .bl b=>a==(if b then 1 else 0)
 | .int a, .int b=>a==b
 | .str a, .str b=>a==b
 | _,_=>false
theorem yd(ry:RelV y u)(rx:RelV x v)(fy:s_ y=true)(fx:s_ x=true):SeqAt.EqAt A s u v (xB y x):=by
 cases y with
 |de=>
  cases ry;cases x with
  |de=>cases rx;exact SeqAt.EqAt.same _
  |bl b=>cases rx;exact SeqAt.EqAt.none_bool b
  |int b=>obtain⟨t,rfl⟩:=rx;exact SeqAt.EqAt.none_int b t
  |str b=>obtain⟨t,rfl⟩:=rx;exact SeqAt.EqAt.none_str b t
  | _=>exact Dk (show false=true from fx)
 |bl a=>
  cases ry;cases x with
  |de=>cases rx;exact SeqAt.EqAt.bool_none a
  |bl b=>cases rx;exact SeqAt.EqAt.bool_bool a b
  |int b=>obtain⟨t,rfl⟩:=rx;exact SeqAt.EqAt.bool_int a b t
  |str b=>obtain⟨t,rfl⟩:=rx;exact SeqAt.EqAt.bool_str a b t
  | _=>exact Dk (show false=true from fx)
 |int a=>
  obtain⟨t',rfl⟩:=ry;cases x with
  |de=>cases rx;exact SeqAt.EqAt.int_none a t'
  |bl b=>cases rx;exact SeqAt.EqAt.int_bool a t' b
  |int b=>obtain⟨t,rfl⟩:=rx;exact SeqAt.EqAt.int_int a t' b t
  |str b=>obtain⟨t,rfl⟩:=rx;exact SeqAt.EqAt.int_str a t' b t
  | _=>exact Dk (show false=true from fx)
 |str a=>
  obtain⟨t',rfl⟩:=ry;cases x with
  |de=>cases rx;exact SeqAt.EqAt.str_none a t'
  |bl b=>cases rx;exact SeqAt.EqAt.str_bool a t' b
  |int b=>obtain⟨t,rfl⟩:=rx;exact SeqAt.EqAt.str_int a t' b t
  |str b=>obtain⟨t,rfl⟩:=rx;exact SeqAt.EqAt.str_str a t' b t
  | _=>exact Dk (show false=true from fx)
 | _=>exact Dk (show false=true from fy)
theorem alX:jF X (.builtin "len") (fun xs H Q=>∃p ys,xs=[.ref p]∧(gF X.K H p ys∨Gy X.K H p ys)∧Q (.int ys.length) H):=by
 intro pins s σ H xs us Q I r h;obtain⟨p,ys,rfl,hq,q⟩:=h;obtain⟨u,rfl,rx⟩:=vals1 r;cases rx;have hn:=rn;rcases hq with hq|hq
 ·obtain⟨its,r',pl,hz⟩:=I.list hq;have hlen:=r'.length;exact Calls.call_len_list pl.isList (by simp only[List.size_toArray]<;>omega) ⟨.int ys.length,H,I.tok _,⟨s.toks+1,by rw[List.size_toArray,hlen]⟩,q⟩
 ·obtain⟨its,r',pl,hz⟩:=I.tuple hq;have hlen:=r'.length;exact len_tuple pl (by simp only[List.size_toArray]<;>omega) ⟨.int ys.length,H,I.tok _,⟨s.toks+1,by rw[List.size_toArray,hlen]⟩,q⟩
theorem p8:jF X (.builtin "len") (fun xs H Q=>∃z,xs=[.str z]∧z.length≤sizeLine∧Q (.int z.length) H):=by
 intro pins s σ H xs us Q I r h;obtain⟨z,rfl,hz,q⟩:=h;obtain⟨u,rfl,t,rfl⟩:=vals1 r;have hn:=rn;exact len_str DH ⟨.int z.length,H,I.tok _,⟨_,rfl⟩,q⟩
theorem arI:jF X (.type "list") (fun xs H Q=>∃p ys,xs=[.ref p]∧(gF X.K H p ys∨Gy X.K H p ys)∧∀l,H l=none→Q (.ref l) (N3 l)):=by
 intro pins s σ H xs us Q I r h;obtain⟨p,ys,rfl,hq,q⟩:=h;obtain⟨u,rfl,rx⟩:=vals1 r;cases rx;have fin:∀(its:List Value),Vals ys its→ys.length≤sizeLine→∀(h':Heap)(c':Nat),(∀b o',s.heap.get? b=some o'→h'.get? b=some o')→
   h'.get? s.heap.objs.size=some {cls:= .type "list",dict:=none,data:= .seq its.toArray c',slots:=#[]}→EP X pins σ Q (.ref s.heap.objs.size) {s with heap:=h'}:=fun its r' hz h' c' kp e=>
  ⟨.ref s.heap.objs.size,_,ε kp Bj (show dA X.prog X.w _ h' _ (.lst ys)from⟨hz,its,c',r',e⟩),rfl,E8 xl⟩
 rcases hq with hq|hq
 ·obtain⟨its,r',pl,hz⟩:=I.list hq;have hlen:=r'.length;obtain⟨o,ho,hc,n,hd⟩:=pl.isList;exact call_list_seq p (.inl rfl) ho hc hd θ (by simp only[List.size_toArray]<;>omega)
 ·obtain⟨its,r',pl,hz⟩:=I.tuple hq;have hlen:=r'.length;obtain⟨o,ho,hc,n,hd⟩:=pl;exact call_list_seq p (.inr rfl) ho hc hd θ (by simp only[List.size_toArray]<;>omega)
def Vx(K:PySem.W.Frag)(T:String)(x:V)(H:Hp):Prop:=match x with
 | .str _=>T="str"
 | .int _=>T="int"
 | .ref p=>(T="list"∧∃xs,gF K H p xs)∨(T="tuple"∧∃o,K.lookup p=some o∧o.cls= .type "tuple"∧o.dict=none)∨
   (T="dict"∧((∃kvs,H p=some (.dK kvs))∨∃kvs,H p=some (.dT kvs)))∨(T="set"∧∃S n,H p=some (.set S n))
 | _=>False
theorem abJ(I:Inv X pins σ H s)(r:RelV x v)(ty:Vx X.K T x H):
  s.TypeIs v T∧∀a,v= .ref a→∃ob,s.heap.get? a=some ob∧ob.dict=none:=by
 cases x with
 |str z=>
  obtain⟨t,rfl⟩:=r;cases(show T="str" from ty);exact⟨typeIs_str s z t,fun _ e=>nomatch e⟩
 |int i=>
  obtain⟨t,rfl⟩:=r;cases(show T="int" from ty);exact⟨ZJ s i,fun _ e=>nomatch e⟩
 |ref p=>
  cases r;rcases ty with⟨rfl,xs,hq⟩|⟨rfl,o,hk,hc,hd⟩|⟨rfl,hk⟩|⟨rfl,S,n,hk⟩
  ·obtain⟨its,_,pl,_⟩:=I.list hq;refine⟨pl.isList.typeIs,fun a e=>?_⟩;cases e;obtain⟨o,n,e,c,hd,_⟩:=pl;exact⟨o,e,hd⟩
  ·refine⟨⟨o,ow p,hc⟩,fun a e=>?_⟩;cases e;exact⟨o,I.rj _ o hk,hd⟩
  ·have z:∃o,s.heap.get? p=some o∧o.ExactDict:=by
    rcases hk with⟨kvs,hk⟩|⟨kvs,hk⟩
    ·obtain⟨_,_,_,_,o,_,_,e,ex,_⟩:=I.cc p _ hk;exact⟨o,e,ex⟩
    ·obtain⟨_,_,_,_,o,_,_,e,ex,_⟩:=I.cc p _ hk;exact⟨o,e,ex⟩
   obtain⟨o,e,ex⟩:=z;refine⟨⟨o,e,ex.1⟩,fun a e2=>?_⟩;cases e2;exact⟨o,e,ex.2.1⟩
  ·obtain⟨o,_,_,_,e,ex,_⟩:=I.cc p _ hk;refine⟨⟨o,e,ex.1⟩,fun a e2=>?_⟩;cases e2;exact⟨o,e,ex.2.1⟩
 | _=>exact E2 ty
def QZ(K:PySem.W.Frag)(T:String)(r:V→List V→Hp→VK→Prop)(to:TE):TE:=fun σ H Q=>to σ H fun x H1=>Vx K T x H1∧r x [] H1 Q
def adX(K:PySem.W.Frag)(T:String)(r:V→List V→Hp→VK→Prop)(to:TE)(t:TA):TE:=fun σ H Q=>to σ H fun x H1=>Vx K T x H1∧t σ H1 fun xs H2=>r x xs H2 Q
variable{o e:Expr}{es:List Expr}{to:TE}{t:TA}{name:Str}{apos fe:Pos}{T id:String}{r:V→List V→Hp→VK→Prop}
theorem ams(pa:PlainAttrs T)(slot:Slot T name id)(FY:typeOf (.builtin id)=pure (.type "method_descriptor"))(hm:Tr X id r)(ho:PE X o to)
  (p9:attributeBase o name X.env (eval o X.env)=eval o X.env:=by rfl) (p_:(apos.endLine==fe.line)=true:=by rfl):PE X (.Call (.Attribute o name apos) [] [] fe) (QZ X.K T r to):=by
 intro pins s σ H Q I h;refine wpAny_Call_method0_late p9 p_ (cU Nc fun v s1 ⟨x,H1,I1,r1,ty,q1⟩=>?_);obtain⟨h1,h2⟩:=abJ I1 r1 ty;exact⟨T,id,pa,slot,FY,h1,h2,ug (apD (hm pins s1 σ H1 x [] v [] Q I1 r1 .nil q1))⟩
theorem avk(pa:PlainAttrs T)(slot:Slot T name id)(FY:typeOf (.builtin id)=pure (.type "method_descriptor"))(hm:Tr X id r)(ho:PE X o to)(ha:PA X (e::es) t)
  (p9:attributeBase o name X.env (eval o X.env)=eval o X.env:=by rfl)
  (GZ:((WI fe).all (fun x=>!x.1)&&(HL fe).all tF
   &&decide ((e::es).length+([]:List Keyword).length+(if ([]:List Keyword).isEmpty then 0 else 1)<30))=true:=by rfl)
  (p_:(apos.endLine==fe.line)=true:=by rfl) (hs:starEach (e::es) X.env=(false,eval e X.env)::starEach es X.env:=by rfl) (B0:(EB fe).any (·.1)=false:=by rfl):
  PE X (.Call (.Attribute o name apos) (e::es) [] fe) (adX X.K T r to t):=by
 intro pins s σ H Q I h;refine wpAny_Call_method_late p9 GZ p_ rfl (cU Nc fun v s1 ⟨x,H1,I1,r1,ty,q1⟩=>?_);obtain⟨h1,h2⟩:=abJ I1 r1 ty;refine⟨T,id,pa,slot,FY,h1,h2,?_⟩;have hA:=ha fe pins s1 σ H1 _ I1 q1;rw[hs]at hA⊢;refine Calls.callWith_builtin (by show(false||(EB fe).any (·.1))=false;rw[B0]<;>rfl) (Zh ?_);exact cU hA fun us s2 ⟨vs,H2,I2,r2,q2⟩=>hm pins s2 σ H2 x vs v us Q I2 r1 r2 q2
end
def Vy(X:Cx)(id:String)(r:V→List V→Hp→VK→Prop):Prop:=
 ∀(pins:List (Addr×Obj))(s:Shared)(σ:St)(H:Hp)(x:V)(xs:List V)(v:Value)(us:List Value)(Q:VK),Inv X pins σ H s→RelV x v→Vals xs us→r x xs H Q→
  wpAny Ak X.A (call (.builtin id) (v::us)) (DR Q) X.xe s
theorem Vals.one:∀{x:V}{us:List Value},Vals [x] us→∃u,us=[u]∧RelV x u
 | _,_, .cons r .nil=>⟨_,rfl,r⟩
theorem Vals.zero:∀{us:List Value},Vals [] us→us=[]
 | _, .nil=>rfl
theorem Vals.reverse(h:Vals xs us):Vals xs.reverse us.reverse:=by
 induction h with
 |nil=>exact .nil
 |cons r t ih=>rw[List.reverse_cons,List.reverse_cons];exact oh ih (.cons r .nil)
theorem Vals.rep(h:Vals xs us):∀k:Nat,Vals (FJ k xs).flatten (FJ k us).flatten
 |0=> .nil
 |k+1=>by
  rw[List.replicate_succ,List.replicate_succ,List.flatten_cons,List.flatten_cons];exact oh h (Vals.rep h k)
theorem foldl_rep (its):∀(k:Nat)(acc:List Value),
  List.foldl aR acc.toArray (FJ k its.toArray)=(acc++(FJ k its).flatten).toArray
 |0,acc=>AA
 |k+1,acc=>by
  have e:acc.toArray++its.toArray=(acc++its).toArray:=AA;have e2:(acc++its)++(FJ k its).flatten=acc++(FJ (k+1) its).flatten:=by
   rw[List.replicate_succ,List.flatten_cons,List.append_assoc]
  rw[←e2,←foldl_rep its k (acc++its),←e,List.replicate_succ,List.foldl_cons]
section
variable{X:Cx}{pins:List (Addr×Obj)}{σ:St}{H:Hp}{s:Shared}{l b:Addr}{xs ys zs:List V}
theorem Inv.ara{its its':List Value}(I:Inv X pins σ H s)(hH:H l=some (.lst xs))
  (e:s.heap.get? l=some {cls:= .type "list",data:= .seq its.toArray n}) (hf:f its.toArray=its'.toArray) (hv:Vals ys its') (hz:ys.length≤sizeLine):
  Inv X pins σ (N3 l) {s with heap:=Th l (GF f),toks:=t'}:=by
 have q:=PySem.IsL.update e f;rw[hf]at q;refine I.write (x:=l) (e:=l) (by rw[hH];exact trivial) (.inl rfl) (fun b' u hb hu=>(Heap.get?_update_other s.heap (GF f) (Ay hb)).trans hu) ⟨_,q⟩ ?_;exact⟨hz,its',_,hv,q⟩
theorem Inv.agb(I:Inv X pins σ H s)(hv:Vals ys its)(hz:ys.length≤sizeLine):
  Inv X pins σ (N3 s.heap.objs.size) {s with heap:=s.heap.push {cls:= .type "list",data:= .seq its.toArray},toks:=t'}:=
 I.laid (fun _ _ q=>BL q) (Nat.le_refl _) ⟨hz,its,0,hv,Heap.get?_push_size _ rfl⟩
theorem Inv.fresh(I:Inv X pins σ H s):H s.heap.objs.size=none:=HA Bj
theorem Inv.B1(I:Inv X pins σ H s)(hH:H l=some (.lst xs)):xs.length≤sizeLine∧∃(its:List Value)(n:Nat),Vals xs its∧xs.length=its.length∧s.heap.get? l=some {cls:= .type "list",data:= .seq its.toArray n}:=by
 obtain⟨z,its,n,r,e⟩:=I.cc l _ hH;exact⟨z,its,n,r,r.length,e⟩
theorem An(h:n≤sizeLine):Builtin.List.listTooLong n=false:=by
 unfold Builtin.List.listTooLong;exact decide_eq_false DH
end
section
variable{X:Cx}
inductive DE(x:V)(vs:List V)(H:Hp)(Q:VK):Prop
 |mk (l) (xs) (y) (_:x= .ref l) (_:vs=[y]) (_:H l=some (.lst xs)) (_:xs.length<sizeLine) (_:Q .de (Ea l (.lst (xs++[y])))):DE x vs H Q
theorem aaN:Vy X "list.append" DE:=by
 intro pins s σ H x vs v us Q I rx rv h;obtain⟨l,xs,y,rfl,rfl,hH,hz,q⟩:=h;cases rx;obtain⟨u,rfl,ru⟩:=rv.one;obtain⟨z,its,n,r,hl,e⟩:=I.B1 hH;refine call_meets F.slot_list_append ⟨_,e,rfl⟩ F.entry_list_append (F.args_list_append_2 _ _) (PySem.list_append l its.toArray n u (by rw[List.size_toArray];omega)) ⟨e,?_⟩;refine⟨.de,_,rf (its':=its++[u]) (OJ (.cons ru .nil)),rfl,q⟩;rw[List.length_append,List.length_singleton];omega
def adz:V→List V→Hp→VK→Prop:=fun x vs H Q=>∃l b xs zs,x= .ref l∧vs=[.ref b]∧H l=some (.lst xs)∧H b=some (.lst zs)∧xs.length+zs.length≤sizeLine∧Q .de (vj l)
theorem atn:Vy X "list.extend" adz:=by
 intro pins s σ H x vs v us Q I rx rv h;obtain⟨l,b,xs,zs,rfl,rfl,hH,hB,hz,q⟩:=h;cases rx;obtain⟨u,rfl,ru⟩:=rv.one;cases ru;obtain⟨z,its,n,r,hl,e⟩:=I.B1 hH;obtain⟨z2,dZ,n2,r2,qb,e2⟩:=I.B1 hB;have hsz:its.toArray.size+dZ.toArray.size≤sizeLine:=by rw[List.size_toArray,List.size_toArray];omega
 have G0:¬(!its.toArray.isEmpty&&Builtin.List.listTooLong (its.toArray.size+dZ.toArray.size))=true:=by
  rw[An hsz,Bool.and_false];exact Bool.false_ne_true
 refine call_meets F.slot_list_extend ⟨_,e,rfl⟩ F.entry_list_extend (F.args_list_extend_2 _ _)
  (AutoSeq1.list_extend_list_list_0 l its.toArray n b dZ.toArray n2 G0 (by rw[List.size_toArray];omega) (by omega)) ⟨e,e2,?_⟩
 refine⟨.de,_,rf (its':=its++dZ) (OJ r2),rfl,q⟩;rw[List.length_append];omega
def aqx:V→List V→Hp→VK→Prop:=fun x vs H Q=>∃l xs,x= .ref l∧vs=[]∧H l=some (.lst xs)∧Q .de (Υ l)
theorem afN:Vy X "list.reverse" aqx:=by
 intro pins s σ H x vs v us Q I rx rv h;obtain⟨l,xs,rfl,rfl,hH,q⟩:=h;cases rx;have Vz:=rv.zero;subst Vz;obtain⟨z,its,n,r,hl,e⟩:=I.B1 hH;refine call_meets F.slot_list_reverse ⟨_,e,rfl⟩ F.entry_list_reverse (F.args_list_reverse_1 _) (AutoSeq1.list_reverse_list_0 l its.toArray n (by rw[List.size_toArray];omega)) ⟨e,?_⟩;refine⟨.de,_,rf (its':=its.reverse) r.reverse,rfl,q⟩;rw[List.length_reverse];omega
inductive Q3(x:V)(y:V)(H:Hp)(Q:VK):Prop
 |mk (l) (b) (xs) (zs) (_:x= .ref l) (_:y= .ref b) (_:H l=some (.lst xs)) (_:H b=some (.lst zs)) (_:xs.length+zs.length≤sizeLine) (_:∀p,H p=none→Q (.ref p) (vj p)):Q3 x y H Q
theorem B4:rm X (binaryOp .Add) Q3:=by
 intro pins s σ H x y v u Q I rx ry h;obtain⟨l,b,xs,zs,rfl,rfl,hH,hB,hz,q⟩:=h;cases rx;cases ry;obtain⟨z,its,n,r,hl,e⟩:=I.B1 hH;obtain⟨z2,dZ,n2,r2,qb,e2⟩:=I.B1 hB;refine PySem.P.add_list e e2 ?_ (by rw[List.size_toArray,List.size_toArray];omega);have ea:its.toArray++dZ.toArray=(its++dZ).toArray:=AA;rw[ea];exact⟨.ref _,_,vx (OJ r2) (by rw[List.length_append];omega),rfl,E8 I.fresh⟩
def air:R2:=fun x y H Q=>∃l k xs,x= .ref l∧y= .int k∧H l=some (.lst xs)∧-(2^63)≤k∧k<2^63∧xs.length*k.toNat≤sizeLine∧
 ∀p,H p=none→Q (.ref p) (Ea p (.lst (FJ k.toNat xs).flatten))
theorem len_rep{α:Type}(xs:List α) (k):(FJ k xs).flatten.length=k*xs.length:=by
 induction k with
 |zero=>simp
 |succ k ih=>rw[List.replicate_succ,List.flatten_cons,List.length_append,ih,Nat.succ_mul,Nat.add_comm]
theorem ahw:rm X (binaryOp .Mult) air:=by
 intro pins s σ H x y v u Q I rx ry h;obtain⟨l,k,xs,rfl,rfl,hH,h1,h2,hz,q⟩:=h;cases rx;obtain⟨t,rfl⟩:=ry;obtain⟨z,its,n,r,hl,e⟩:=I.B1 hH;have hlen:its.toArray.size*k.toNat≤sizeLine:=by rw[List.size_toArray,←hl];exact hz
 have asn:¬its.toArray.size*k.toNat>(2^63-1)/8:=by
  have:(sizeLine:Nat)≤(2^63-1)/8:=AN;omega
 have ats:¬(!Builtin.List.listFitsIndex k)=true:=by
  rw[fitsIndex_both h1 h2];exact Bool.false_ne_true
 have G0:¬Builtin.List.listTooLong (its.toArray.size*k.toNat)=true:=by
  rw[An hlen];exact Bool.false_ne_true
 have EU:List.foldl aR #[] (FJ (if its.toArray.isEmpty=true then 0 else k.toNat) its.toArray)=(FJ k.toNat its).flatten.toArray:=by
  have f0:∀m:Nat,List.foldl aR #[] (FJ m its.toArray)=(FJ m its).flatten.toArray:=fun m=>by
   have:=foldl_rep its m [];rw[List.nil_append]at this;exact this
  rw[f0];cases its with
  |nil=>simp
  |cons a r'=>rw[if_neg A9]
 refine wpAny_binaryOp_repeat_ref (T:="list") (U:="int") (AN) ⟨_,e,rfl⟩ (fun s'=>ZJ s' k) noFill_list_mul F.fills_int_mul F.slot_int_rmul repeat_list F.slot_int_index.lookup
  (call_meets F.slot_int_rmul (ZJ s k) F.entry_int_rmul (F.args_int_rmul_2 _ _) (int___rmul___int_list k t l its.toArray n)
   ⟨e,rfl,⟨_,e,rfl⟩,call_meets F.slot_list_mul ⟨_,e,rfl⟩ F.entry_list_mul (F.args_list_mul_2 _ _) (AutoListH.list___mul___list_int_3 l its.toArray n k t ats asn G0) ⟨e,?_⟩⟩)
 rw[EU];exact⟨.ref _,_,vx (r.rep k.toNat) (by rw[len_rep,Nat.mul_comm];exact hz),rfl,E8 I.fresh⟩
end
section
variable{prog:Program}{w:World}{A:Around}{E:Value→Shared→Prop}{s:Shared}
end
section
variable{X:Cx}
end
end L2
namespace adY
open PySem PySem.W PySem.Calls PyProof.Rows
theorem anG:∀(ns:List Int)(vs:List Value),WellAll P h vs (EG WData.int)→IntsAre vs ns:=by
 intro ns
 induction ns with
 |nil=>
  intro vs w;rw[List.map_nil]at w;cases w;exact .nil
 |cons n ns ih=>
  intro vs w;rw[List.map_cons]at w;cases w with
  |cons a b=>
   cases a;exact .cons _ _ (ih _ b)
theorem afW{l:OpenLaw}(hn:l.most=some n)
  (J4:l.row.toRowW.claim.pre args=true) (FZ:WellAll P h vals args):
  ∃a vs ns,vals=[Rr a]∧args=[WData.list (EG WData.int)]∧h.get? a=some {cls:= .type "list",data:= .seq vs.toArray}∧IntsAre vs ns∧ns.length≤n:=by
 have v_:WShape.hasAll [] args [.list .int]=true:=(pre_splitW J4).1;have hc:l.pre.holds [] {args:=args}=true:=(pre_splitW J4).2;obtain⟨d,r,rfl,h1,h2⟩:=hasAllW_cons v_;obtain rfl:=hasAllW_nil h2;obtain⟨xs,rfl,h3⟩:=hasW_list h1;obtain⟨ns,rfl⟩:=items_int h3;have hlen:ns.length≤n:=by
  unfold OpenLaw.pre at hc;have h4:(WTm.not (.lt (.lit (.int (n:Int))) (.len (.arg 0)))).holds [] {args:=[.list (EG .int)]}=true:=by
   have h4:=(holds_andW hc).1;rw[hn]at h4;exact h4
  have h5:=condW_of h4 (w_not (w_lt w_lit (w_len_list (w_arg rfl))));rw[List.length_map]at h5;refine Nat.le_of_not_lt fun q=>?_
  have q':(n:Int)<((ns.length:Nat):Int):=by omega
  first
   |(rw[EK q']at h5;exact absurd h5 EN)
   |(simp at h5;omega)
 cases FZ with
 |cons w1 w2=>
  cases w2;cases w1 with
  |list ho auf=>exact⟨_,_,ns,rfl,rfl,ho,anG ns _ auf,hlen⟩
theorem atw(l:OpenLaw) (args):l.row.toRowW.claim.post args (.bool true) args=true:=
 postW_of (r:=l.row.toRowW) (X:=(true==true))
  (show WShape.has [] (.bool true) .bool=true by first|rfl|decide|simp[WShape.has,WShape.arms,WShape.armsAll])
  (show(WTm.eq .res (.lit (.bool true))).value [] {args:=args,res:=some (.bool true),after:=args}=some (.bool (true==true))from w_eq_bool (w_res rfl) w_lit) rfl
theorem auI{l:OpenLaw}{q}{loose}{d}
  (hn:l.most=some n) (Q4:d.params.defaults=[])
  (call:∀(w:World)(dQ cf:Shared)(mg mb:Str→Option Value)(fa:Addr)(o:Obj)(pm cd doc:Value)(a:Addr)(vs:List Value)(ns:List Int),
   Ground q loose [] XP w dQ mg mb cf.heap→YP w cf.heap→
   cf.heap.get? fa=some o→o.data= .func (docDef d.name d.params d.body d.scope pm cd doc)→cf.heap.CodeRec cd d.name→mg d.name=some (.ref fa)→
   cf.heap.get? a=some {cls:= .type "list",data:= .seq vs.toArray}→IntsAre vs ns→ns.length≤n→cf.gens=#[]→
   codeAny (aiD l.prog) callerA (.call (.ref fa) ⟨[.ref a],[]⟩) (fun r s'=>r= .ok (.ret (.bool true))∧OldK cf.heap s'.heap∧s'.os=cf.os∧AllBare s'.gens) cf):
  WalkO q loose XP YP l.row.toRowW d [] (fun f vs=>pB f):=by
 intro w dQ cf mg mb G Y fa o pm cd doc dV kV ho hd EF hD Q5 hg args vals as J4 axv hrd FZ Pl;obtain rfl:dV= .none:=Dflts.none hD Q4;obtain rfl:kV= .none:=Dflts.noKw hD;obtain⟨a,vs,ns,rfl,rfl,Nv,hints,hlen⟩:=afW hn J4 FZ;refine enter_call (codeAny_mono (call w dQ cf mg mb fa o pm cd doc a vs ns G Y ho (fd_plain hd) EF Q5 Nv hints hlen hg) fun r s' hq=>?_);obtain⟨rfl,h2,h3,h4⟩:=hq;exact⟨.inl ⟨.bool true, .bool true,[],rfl,fun _=>rfl, .bool true,atw l _,fun _=>⟨List.Pairwise.nil,fun _ hm=>(nomatch hm)⟩⟩,h2,h3,h4⟩
section
variable{prog:Program}{w:World}{A:Around}{E:Value→Shared→Prop}{s:Shared}{K:Frag}
def ledger(h:Heap)(L d:Addr):List (Addr×Obj):=(B5 h.objs.size).filterMap fun a=>if a=L∨a=d then none else(h.get? a).map fun o=>(a,o)
end
end adY
namespace L2
open PySem PySem.Spec PyProof.Rows
theorem xD:∀{vs:List Value}{ns:List Int},IntsAre vs ns→Vals j7 vs
 | _,_, .nil=> .nil
 | _,_, .cons n t h=> .cons ⟨t,rfl⟩ (xD h)
def Nw(H:Hp):Prop:=∀b,H b=none∨∃o xs,H b=some (.t9 o (.lst xs))
theorem agc{K}{a:Addr}{x}{cf}{vs}
  (KX:K.In cf.heap) (Ts:cf.heap.Ns mainGlobals mg) (hb:cf.heap.Ns builtinsNs mb) (awj:∀x:Str,x≠"__name__"→mb x=bootBuiltins x) (aff:cf.heap.NoLimit) (hg:cf.gens=#[])
  (ha:cf.heap.get? a=some {cls:= .type "list",data:= .seq vs.toArray}) (hi:IntsAre vs ns) (hl:ns.length≤sizeLine) (hr:e_ cm k callerA)
  (F:∀base:Heap,K.In base→base.Ns mainGlobals mg→aZ P w K mg base CX cm k fa fd [x] sp) (atM:∀(s:Shared)(u:Value),sM [(x,u)])
  (DC:∀H:Hp,Nw H→gF K H a (EG V.int)→sp [.ref a] H vN fun _ _ _=>False)
  (VF:∀H e s',CX [] H cf wL e s'→False):
  codeAny HC callerA (.call (.ref fa) ⟨[.ref a],[]⟩) (fun r s'=>r= .ok (.ret (.bool true))∧OldK cf.heap s'.heap∧s'.os=cf.os∧AllBare s'.gens) cf:=by
 have rv:=xD hi;have alC:=hi.length;have core:∀H:Hp,Nw H→gF K H a (EG V.int)→mH P w H cf.heap→(∀b,H b≠none→b=a)→(H a≠none→K.lookup a=none)→
   codeAny HC callerA (.call (.ref fa) ⟨[.ref a],[]⟩) (fun r s'=>r= .ok (.ret (.bool true))∧OldK cf.heap s'.heap∧s'.os=cf.os∧AllBare s'.gens) cf:=by
  intro H hO hS cc hA hK;have DF:∀{b:Addr}{o:Obj},cf.heap.get? b=some o→H b=none→(Ow H).get? b=some o:=fun e n=>ahQ e n
  have QR:∀{b:Addr}{o:Obj}{es:Array DictEntry}{ep:Nat},cf.heap.get? b=some o→o.data= .dict es ep→H b=none:=fun{b o es ep} e d=>by
   cases q:H b with
   |none=>rfl
   |some u=>
    have e':b=a:=hA b (by rw[q];simp);subst e';rw[ha]at e;cases e;have d':Data.seq vs.toArray _=Data.dict es ep:=d;cases d'
  have Tt:∀{b:Addr}{m:Str→Option Value},cf.heap.Ns b m→(Ow H).Ns b m:=fun{b m} ⟨o,es,ep,e,d,r⟩=>⟨o,es,ep,DF e (QR e d),d,r⟩
  have XS:K.In (Ow H):=fun b o e=>DF (KX b o e) (by
   cases q:H b with
   |none=>rfl
   |some u=>
    have e':b=a:=hA b (by rw[q];simp);subst e';rw[hK (by rw[q];simp)]at e;cases e)
  have hM:Mod K mg (Ow H):=⟨XS,Tt Ts,⟨mb,Tt hb,awj⟩,let ⟨mc,h1,h2⟩:=aff;⟨mc,Tt h1,h2⟩⟩
  have e0:BS P w K mg (Ow H) callerA [] cf H:=⟨rfl,hM,fun b o e=>avL e,Nb (atN _ _),trivial,fun b hb=>Fm (show b∈([]:List Addr)from hb),cc, .of_eq hg⟩
  refine codeAny_mono ((F _ XS (Tt Ts)).run callerA [] cf H ⟨[.ref a],[]⟩ [.ref a] [.ref a] _ _ hr e0 (atM cf (.ref a)) (.cons rfl .nil) (DC H hO hS)) fun r s' h=>?_
  cases r with
  |error e=>exact(VF H e s' h).elim
  |ok fl=>
   cases fl with
   |next=>exact E2 h
   |brk=>exact E2 h
   |cont=>exact E2 h
   |ret u=>
    obtain⟨v,H',os,bare,un,arz,r',q⟩:=h;have q':v= .bl true:=q;subst q';obtain rfl:u=Value.bool true:=r';refine⟨rfl,OldK.of_keep fun b o e=>?_,os,bare⟩;cases q:H b with
    |none=>exact un.keep b o e q (by intro z;exact Fm (show b∈([]:List Addr)from z)) (AA)
    |some u=>
     rcases hO b with z|⟨ob,xs,z⟩
     ·rw[q]at z;cases z
     ·have z2:=un.pY b ob _ z;obtain⟨e1,_⟩:=cc b _ z;obtain⟨e2,_⟩:=arz b _ z2;rw[e]at e1;cases e1;exact e2
 cases hk:K.lookup a with
 |some o=>
  have e:=KX a o hk;rw[ha]at e;cases e;refine core (fun _=>none) (fun _=> .inl rfl) (.inr ⟨_,vs.toArray,_,hk,rfl,rfl,rfl,by rw[List.size_toArray,alC];exact hl,by simpa using rv⟩) (fun b u z=>by have z':(none:Option HO)=some u:=z;cases z') (fun b z=>EV z) fun z=>EV z
 |none=>
  refine core (fun b=>if b=a then some (.t9 {cls:= .type "list",data:= .seq vs.toArray} (.lst j7))else none) (fun b=>?_) (.inl (.inr ⟨{cls:= .type "list",data:= .seq vs.toArray},if_pos rfl⟩)) (fun b u z=>?_) (fun b z=>?_) fun _=>hk
  ·by_cases hb:b=a
   ·exact .inr ⟨_,_,A7 hb⟩
   ·exact .inl (A6 hb)
  ·by_cases hb:b=a
   ·have z':=(A7 hb).symm.trans z;cases z';subst hb;exact⟨ha,by rw[List.length_map];exact hl,vs,_,rv,ha⟩
   ·have z':=(A6 hb).symm.trans z;cases z'
  ·by_cases hb:b=a
   ·exact hb
   ·exact BO (A6 hb) z
theorem aqo{cm:Bool}{l:PySem.W.OpenLaw}{n k:Nat}{q}{loose}{XP}{YP}{d:DefRec}{K:Params→PySem.W.Frag}{CX:World→LJ}{sp:World→Sp}{x}
  (hn:l.most=some n) (zT:n≤sizeLine) (Q4:d.params.defaults=[]) (hr:e_ cm k callerA)
  (hY:∀(w:World)(h:Heap),YP w h→(K w.params).In h)
  (F:∀(w:World)(mg:Str→Option Value)(fa:Addr)(h:Heap),(K w.params).In h→h.Ns mainGlobals mg→mg d.name=some (.ref fa)→
   ∃fd:FuncData,(∀(s:Shared)(u:Value),sM [(x,u)])∧
    ∀base:Heap,(K w.params).In base→base.Ns mainGlobals mg→aZ l.prog w O_ mg base (CX w) cm k fa fd [x] (sp w))
  (DC:∀(w:World)(H:Hp)(a:Addr)(ns:List Int),ns.length≤n→Nw H→gF O_ H a (EG V.int)→sp w [.ref a] H vN fun _ _ _=>False)
  (VF:∀(w:World)(H:Hp)(s:Shared)(e:Value)(s':Shared),CX w [] H s wL e s'→False):
  PySem.W.WalkO q loose XP YP l.row.toRowW d [] (fun f vs=>pB f):=by
 refine adY.auI hn Q4 fun w dQ cf mg mb fa o pm cd doc a vs ns G Y ho hd EF Q5 Nv hints hlen hg=>?_
 have KX:=hY w _ Y;obtain⟨fd,hb,hF⟩:=F w mg fa _ KX G.T.g Q5;exact agc KX G.T.g G.T.b G.T.builtins G.T.nolimit hg Nv hints (E3 hlen zT) hr hF hb (fun H hO hS=>DC w H a ns hlen hO hS) fun H e s'=>VF w H cf e s'
def inClass(s:Stmt)(j:Nat):Stmt:=match s with
 | .ClassDef _ _ _ body _ _ _ _ _ _ _=>body.getD j (.Pass ⟨0,0,0,0⟩)
 | _=> .Pass ⟨0,0,0,0⟩
def dw(s:Stmt):Arguments:=match s with
 | .FunctionDef _ a _ _ _ _ _ _ _ _=>a
 | _=>{posonlyargs:=[],args:=[],vararg:=none,kwonlyargs:=[],kw_defaults:=[],kwarg:=none,defaults:=[]}
def cP(s:Stmt):List Stmt:=match s with
 | .FunctionDef _ _ b _ _ _ _ _ _ _=>b
 | _=>[]
def au(s:Stmt):Scope:=match s with
 | .FunctionDef _ _ _ _ _ _ sc _ _ _=>sc
 | _=>{kind:= .function,names:=[],isGenerator:=false,isCoroutine:=false}
abbrev E0:XK:=fun _ _ _=>False
structure jh(K:PySem.W.Frag)(x qual:Str)(st:Stmt)(f:Addr)(fd:FuncData):Prop where
 ex:∃(oc:Value)(od:Option Addr)(kV doc pm:Value)(an:Option Addr)(gK ct:Value)(GN:Array sP),
  fd=PySem.W.fnOf x qual jb (cP st) (au st) .none kV doc pm an gK ct∧K.lookup f=some ⟨oc,od, .func fd,GN⟩∧PySem.W.codeIn K gK qual=true
 kp:PySem.W.keepIn K (.ref f)=true
section
variable{P:Program}{w:World}{K:PySem.W.Frag}{mg:Str→Option Value}{base:Heap}
theorem jh.binds{st:Stmt}{ps}(F:jh K x qual st f fd)
  (h:∀(kV doc pm:Value)(an:Option Addr)(gK ct:Value)(us:List Value),us.length=ps.length→bindArgs Ρ ⟨us,[]⟩=pure R3):Binds K fd ps []:=by
 obtain⟨oc,od,kV,doc,pm,an,gK,ct,GN,rfl,lk,EF⟩:=F.ex;exact .all (h kV doc pm an gK ct)
theorem G8{x qual}{st}{an:Option Addr}{kV doc pm gK ct}(l:K.lookup f=some ⟨oc,od, .func Ρ,GN⟩)
  (c:PySem.W.codeIn K gK qual=true) (k:PySem.W.keepIn K (.ref f)=true):jh K x qual st f (px x jb (cP st) (au st) .none):=⟨⟨oc,od,kV,doc,pm,an,gK,ct,GN,rfl,l,c⟩,k⟩
end
section
variable{X:Cx}
theorem pv (i) (hN:X.N[i]?=some x:=by rfl) (hv:U6 X.env.scope x:=by first|exact Or.inl rfl|exact Or.inr (Or.inl rfl)|exact Or.inr (Or.inr rfl)) (hd:(x==("__debug__":Str))=false:=by decide)
  (EF:(x==("__classdict__":Str))=false:=by decide):PE X (.Name x pos) (MW i):=ahN hN hv hd EF
end
theorem gu{A B:Prop}(h:B):if false=true then A else B:=by
 rw[A6 Bool.false_ne_true];exact h
theorem j1{A B:Prop}(h:A):if true=true then A else B:=by
 rw[if_pos rfl];exact h
theorem a9{c A B:Prop}[Decidable c](h1:c→A)(h2:¬c→B):if c then A else B:=by
 by_cases h:c
 ·rw[A7 h];exact h1 h
 ·rw[A6 h];exact h2 h
def av(H H':Hp):Prop:=∀b o,H b=some o→H' b=some o
theorem av.refl (H):av H H:=fun _ _ h=>h
theorem av.trans(a:av H H1)(b:av H1 H2):av H H2:=fun c o h=>b c o (a c o h)
theorem av.free(e:av H H')(h:H' l=Option.none):H l=Option.none:=by
 cases q:H l with
 |none=>rfl
 |some o=>
  rw[e l o q]at h;cases h
theorem av.seq{K:PySem.W.Frag}{a}(e:av H H')(h:gF K H a xs):gF K H' a xs:=by
 rcases h with(h|⟨o,h⟩)|h
 ·exact .inl (.inl (e _ _ h))
 ·exact .inl (.inr ⟨o,e _ _ h⟩)
 ·exact .inr h
section
variable{κ:Type}[DecidableEq κ]
theorem Ap{kvs:List (κ×V)}(h:bH kvs k=none):¬k∈kvs.map (·.1):=by
 intro m;obtain⟨p,hp,e⟩:=E4 m;have q:(kvs.any fun kv=>decide (kv.1=k))=true:=List.any_eq_true.mpr ⟨p,hp,EK e⟩;rw[iQ,h]at q;exact Fm q
theorem DG{kvs:List (κ×V)}(h:bH kvs k=some v):k∈kvs.map (·.1):=by
 have q:(kvs.any fun kv=>decide (kv.1=k))=true:=by
  rw[iQ,h];all_goals rfl
 obtain⟨p,hp,e⟩:=List.any_eq_true.mp q;exact EY ⟨p,hp,Ie e⟩
end
end L2
namespace L2
open PySem PySem.Spec PyProof.Rows PySem.W
def cY(P:Program)(w:World):LJ:=fun outer H s E e s'=>
 ∃(ea:Addr)(cls a0:Value)(B:Heap)(H':Hp),e= .ref ea∧s'.os=s.os∧AllBare s'.gens∧Heap.FlyingW B outer ea cls a0 s'.heap∧
  Un VD [] H H' s.heap s'.heap∧mH P w H' B∧(∀b o,s.heap.get? b=some o→H b=none→b∉pV outer→B.get? b=some o)∧(∀b o,s.heap.get? b=some o→b∉pV outer→∃o',B.get? b=some o')∧E cls none H'
theorem aO:Passes (AU P) X (fun _=>E0):=fun _ _ _ _ _ _ _ ⟨_,_,_,_,_,_,_,_,_,_,_,_,_,h⟩=>h.elim
structure Tu(X:Cx)(E:St→XK):Prop where
 raise:∀(pins:List (Addr×Obj))(σ:St)(H:Hp)(s:Shared)(h':Heap)(e:Addr)(cls:Value)(args:List Value),Inv X pins σ H s→Heap.MadeExcOf s.heap h' e cls args→E σ cls none H→X.xe (.ref e) {s with heap:=h'}
 pass:Passes GQ X E
 own:PassesOwn (VC X.w) X.A X.env X.xe
theorem mH.hide{as}(ok:mH P w H h)(hf:∀b∈as,H b=none):mH P w H (hideAll h as):=fun a o e=>
 (ok a o e).xY (fun b u hb q=>hideAll_get _ q fun hm=>by
  rcases hb with rfl|hb
  ·rw[hf _ hm]at e;cases e
  ·rw[hf _ hm]at hb;cases hb) (fun b q=>q) fun b xs q=>q
section
variable{P:Program}{w:World}{K:PySem.W.Frag}{mg:Str→Option Value}{base:Heap}{N:List Str}{qual:Str}{scope:Scope}{f:Addr}{cd:Value}{A:Around}{outer:List Env}{s:Shared}{H:Hp}{E:XK}{cm:Bool}
theorem aqj{a}(x:dA P w H h a o):∃q,h.get? a=some q:=by
 cases o with
 |lst xs=>obtain⟨_,its,n,_,e⟩:=x;exact⟨_,e⟩
 |tup xs=>obtain⟨_,its,_,o,e,_⟩:=x;exact⟨_,e⟩
 |dK kvs=>obtain⟨_,_,vs,_,o,es,ep,e,_⟩:=x;exact⟨_,e⟩
 |dT kvs=>obtain⟨_,_,xs,_,o,es,ep,e,_⟩:=x;exact⟨_,e⟩
 |set S n=>obtain⟨o,es,ep,t,e,_⟩:=x;exact⟨_,e⟩
 |ins C dx fs=>obtain⟨_,_,_,e,_⟩:=x;exact⟨_,e⟩
 |own y=>exact x
 |xd fs=>obtain⟨mA,⟨o,es,ep,e,_⟩,_⟩:=x;exact⟨_,e⟩
 |met f y=>exact⟨_,x⟩
 |Tf lo hi=>obtain⟨t,u,v,e⟩:=x;exact⟨_,e⟩
 |t9 o u=>exact⟨_,x.1⟩
 |JI ps=>exact⟨_,x⟩
 |ext φ=>exact x.2.1
theorem asa:Tu (YA (AU P) cd) (fun _=>E):=by
 refine⟨?_,?_,PassesOwn.leaving⟩
 ·intro pins σ H1 s1 h' e cls args I hx hE;have VI:(Bc Nu).frames=some (envOfC qual scope s.heap.objs.size f cd::outer):=I.ok.frames;have uo:s1.heap.FunFrames base (envOfC qual scope s.heap.objs.size f cd::outer):=I.stack;have pW:∀env∈(envOfC qual scope s.heap.objs.size f cd::outer),∀b,env.frame=some b→b∈(envOfC qual scope s.heap.objs.size f cd::outer).filterMap (·.frame):=fun env he b hb=>Yv ⟨env,he,hb⟩
  have Dq:∀b∈(envOfC qual scope s.heap.objs.size f cd::outer).filterMap (·.frame),H1 b=none:=I.x5;show wpAny HC (Bc Nu) (leaving (IQ cd) (.ref e)) (fun _ zU=>XQ (.ref e)) (fun e' zU=>XQ e') {s1 with heap:=h'};have B6:∀b o,s.heap.get? b=some o→b∉pV outer→b∉(envOfC qual scope s.heap.objs.size f cd::outer).filterMap (·.frame):=fun b o q hb hm=>by
   obtain⟨env,he,hf⟩:=YE hm;rcases List.mem_cons.mp he with rfl|he
   ·have z:s.heap.objs.size=b:=Option.some.inj hf;exact aoj (by rw[z];exact Nat.lt_irrefl _)
   ·exact hb avc
  refine wpAny_leaves_madeW (s:={s1 with heap:=h'}) (h:=s1.heap) (base:=hideAll s1.heap ((envOfC qual scope s.heap.objs.size f cd::outer).filterMap (·.frame))) (L:=s.heap.objs.size) VI rfl (fun b o q=>of_hideAll _ q) (funFrames_hide uo pW) hx fun h2 t x1 x2 x3 x4=>?_
  have bs:Un VD [] H H1 s.heap s1.heap:=I.base;have kB:∀b o,s.heap.get? b=some o→H b=none→b∉pV outer→(hideAll s1.heap ((envOfC qual scope s.heap.objs.size f cd::outer).filterMap (·.frame))).get? b=some o:=fun b o q hn hb=>
   hideAll_get _ (sE q) (VO q)
  have hB:mH P w H1 (hideAll s1.heap ((envOfC qual scope s.heap.objs.size f cd::outer).filterMap (·.frame))):=I.cc.hide Dq;refine⟨e,cls, .ref t,_,H1,rfl,I.os,I.bare,x1,?_,hB,kB,fun b o q hb=>?_,hE⟩
  rotate_left
  ·obtain⟨o',e1⟩:=bs.there b o q A9;exact⟨o',amJ e1⟩
  refine⟨fun b o q hn hb _=>N9 o (kB b o q hn hb),fun b o q hn hb _=>?_,fun b o q hn _=>Qv q,fun b o q _=>?_,bs.cT,bs.pY,bs.tH⟩
  ·obtain⟨sl,e1⟩:=bs.slot b o q hn hb A9;have LP:s1.heap.FunFrames base outer:=uo.2.2;obtain⟨_,o2,e2,J6⟩:=LP.mem hb;rw[e1]at e2;cases e2;obtain⟨yg,e3⟩:=Qd (kq e1);exact⟨yg,e3⟩
  ·cases q1:H1 b with
   |some u=>
    obtain⟨oo,z⟩:=aqj (hB b u q1);exact⟨oo,N9 oo z⟩
   |none=>
    cases q0:H b with
    |none=>
     by_cases hb:b∈pV outer
     ·obtain⟨sl,e1⟩:=bs.slot b o q q0 hb A9;have LP:s1.heap.FunFrames base outer:=uo.2.2;obtain⟨_,o2,e2,J6⟩:=LP.mem hb;rw[e1]at e2;cases e2;obtain⟨yg,e3⟩:=Qd (kq e1);exact⟨_,e3⟩
     ·exact⟨o,N9 o (kB b o q q0 hb)⟩
    |some u=>
     obtain⟨o',e1⟩:=bs.there b o q A9;by_cases hb:b∈pV outer
     ·have LP:s1.heap.FunFrames base outer:=uo.2.2;obtain⟨_,o2,e2,J6⟩:=LP.mem hb;obtain⟨yg,e3⟩:=Qd (kq e2);exact⟨_,e3⟩
     ·exact⟨o',N9 o' (amJ e1)⟩
 ·rintro pins σ H1 s1 e s2 I ⟨ea,cls,a0,B,H',rfl,os,bare,Tv,un,hB,kB,tB,hE⟩;have VI:(Bc Nu).frames=some (envOfC qual scope s.heap.objs.size f cd::outer):=I.ok.frames;show wpAny HC (Bc Nu) (leaving (IQ cd) (.ref ea)) (fun _ zU=>XQ (.ref ea)) (fun e' zU=>XQ e') s2;have Tv:Heap.FlyingW B (envOfC qual scope s.heap.objs.size f cd::outer) ea cls a0 s2.heap:=Tv;have un:Un (pV (envOfC qual scope s.heap.objs.size f cd::outer)) [] H1 H' s1.heap s2.heap:=un;have kB:∀b o,s1.heap.get? b=some o→H1 b=none→b∉pV (envOfC qual scope s.heap.objs.size f cd::outer)→B.get? b=some o:=kB;have B6:∀b o,s.heap.get? b=some o→b∉pV outer→b∉pV (envOfC qual scope s.heap.objs.size f cd::outer):=fun b o q hb hm=>by
   obtain⟨env,he,hf⟩:=YE hm;rcases List.mem_cons.mp he with rfl|he
   ·have z:s.heap.objs.size=b:=Option.some.inj hf;exact aoj (by rw[z];exact Nat.lt_irrefl _)
   ·exact hb avc
  have VJ:∀b,b∈pV outer→b∈pV (envOfC qual scope s.heap.objs.size f cd::outer):=fun b hb=>by
   obtain⟨env,he,hf⟩:=YE hb;exact Yv ⟨env,Ep he,hf⟩
  have bs:Un VD [] H H1 s.heap s1.heap:=I.base;refine wpAny_leaves_onW (L:=s.heap.objs.size) VI rfl Tv fun h2 x1 x4=>?_
  have XT:∀b o,s.heap.get? b=some o→H b=none→b∉pV outer→B.get? b=some o:=fun b o q hn hb=>kB b o (sE q) (Qv q) (VO q)
  have LP:s2.heap.FunFrames B outer:=Tv.2.2.1.2.2;refine⟨ea,cls,a0,B,H',rfl,os.trans I.os,bare,x1,?_,hB,XT,fun b o q hb=>?_,hE⟩
  rotate_left
  ·obtain⟨o',e1⟩:=bs.there b o q A9;exact tB b o' e1 (VO q)
  refine⟨fun b o q hn hb _=>N9 o (XT b o q hn hb),fun b o q hn hb _=>?_,fun b o q hn _=>?_,fun b o q _=>?_,fun b xs q=>un.cT b xs (bs.cT b xs q),fun b o u q=>un.pY b o u (bs.pY b o u q),fun b ps q=>?_⟩
  ·obtain⟨sl,e1⟩:=bs.slot b o q hn hb A9;obtain⟨sl1,e2⟩:=un.slot b _ e1 (Qv q) (VJ b hb) (AA);obtain⟨_,o2,e3,J6⟩:=LP.mem hb;rw[e2]at e3;cases e3;obtain⟨yg,e4⟩:=Qd e2;exact⟨yg,e4⟩
  ·by_cases hb:b∈pV outer
   ·obtain⟨sl,e1⟩:=bs.slot b o q hn hb A9;exact un.free b _ e1 (Qv q) (AA)
   ·exact un.free b o (sE q) (Qv q) (AA)
  ·obtain⟨o',e1⟩:=bs.there b o q A9;obtain⟨o2,e2⟩:=un.there b o' e1 A9;by_cases hb:b∈pV outer
   ·obtain⟨_,o3,e3,J6⟩:=LP.mem hb;obtain⟨yg,e4⟩:=Qd e3;exact⟨_,e4⟩
   ·obtain⟨o3,e3⟩:=tB b o' e1 (VO q);exact⟨o3,N9 o3 e3⟩
  ·obtain⟨more,z⟩:=bs.tH b ps q;obtain⟨ajM,z2⟩:=un.tH b _ z;exact⟨more++ajM,by rw[z2,Array.append_assoc]⟩
end
end L2
namespace L2
open PySem PySem.Spec PyProof.Rows PySem.W PySem.Calls Builtin Builtin.ObjectAttr Builtin.Getset_descriptor
section
variable{prog:Program}{w:World}{A:Around}{E:Value→Shared→Prop}{K:Frag}{x C:Addr}{o:Obj}{hh:Heap}{g:Array GenState}{d:Drawn}{t:Nat}{os:OsState}
end
structure Q8(K:Frag)(C:Addr):Prop where
 ex:excIn K C [.type "ValueError", .type "Exception", .type "BaseException", .type "object"] "ValueError.__new__"=true
 cl:findIn K (.ref C) "__class__"=some (some (.builtin "object.__class__"))
 ob:mroIn K C (.type "object")=some true
 be:mroIn K C (.type "BaseException")=some true
 ga:findIn K (.ref C) "__getattribute__"=some (some (.builtin "BaseException.__getattribute__"))
 gn:findIn K (.ref C) "__getattr__"=some none
 tu:instIn K (.ref C) (.type "tuple")=some false
 kp:keepIn K (.ref C)=true
end L2
namespace L2
open PySem PySem.Spec PyProof.Rows PySem.W PySem.Calls
theorem agF{K}(X:K.In h)(q:excIn K C aoL newId=true):
  ∃bm N nm qn bs hdct sn sub ab col dd k0 k1 k2 k3 k5 mN,h.get? C=some (excClassObj nm qn C N bs bm hdct sn sub ab col dd k0 k1 k2 k3 k5 newId)∧h.Ns N mN∧mN "__init__"=none∧OwnTail h aoL bm:=by
 unfold excIn at q;split at q
 ·rename_i dd cd sl ho
  split at q
  ·rename_i C' bm k0 k1 k2 k3 n k5 hm hs
   simp only[Bool.and_eq_true,beq_iff_eq,Bool.not_eq_true']at q;obtain⟨⟨⟨⟨⟨rfl,rfl⟩,Q9⟩,ht⟩,cc⟩,Tw⟩:=q;obtain⟨nm,bs,mro,ns,qn,hd,sn,sub,ab,col,del⟩:=cd;dsimp only at hm Q9 cc Tw;subst hm Q9;have Ny:sl=#[k0,k1,k2,k3,some (.builtin n),k5]:=by
    obtain⟨l⟩:=sl;simp only at hs;rw[hs]
   subst Ny;exact⟨bm,ns,nm,qn,bs,hd,sn,sub,ab,col,dd,k0,k1,k2,k3,k5,_,X _ _ ho, .of_isNs (isNs_of_in X cc),nsMap_none_of_in X cc Tw,tail_of_in X ht⟩
  ·cases q
 ·cases q
section
variable{X:Cx}{x:Str}{np fe pos:Pos}{e:Expr}{es:List Expr}{t:TA}{C:Addr}{E:St→XK}
def ahz(C:Addr)(E:St→XK)(t:TA):TS:=fun _ σ H=>t σ H fun vs H1=>vs.length≤sizeLine∧E σ (.ref C) none H1
theorem jI(hX:Tu X E)(hc:X.calm=true)(hg:Gl X x)(hm:X.mg x=some (.ref C))(c:Q8 X.K C)(ha:PA X (e::es) t)(vZ:(x==("__debug__":Str))=false:=by decide)
  (he:starEach (e::es) X.env=(false,eval e X.env)::starEach es X.env:=by rfl) (rg:(EB fe).any (·.1)=false:=by rfl):
  PS X (.Raise (some (.Call (.Name x np) (e::es) [] fe)) none pos) (ahz C E t):=by
 intro pins s σ H D I h;obtain⟨bm,N,nm,qn,bs,hdct,sn,sub,ab,col,dd,k0,k1,k2,k3,k5,mN,hC,hN,Tw,T⟩:=agF I.ok.mod.Pd c.ex;refine wpAny_Raise_call_subT (C:=C) (nm:=nm) (q:=qn) (N:=N) (bs:=bs) (bm:=bm) (hdct:=hdct) (sn:=sn) (sub:=sub) (ab:=ab) (col:=col) (dd:=dd) (k0:=k0) (k1:=k1) (k2:=k2) (k3:=k3) (k5:=k5)
  F.excBase_ValueError (mN:=mN) (T.hasType F.excBase_ValueError.hasBase) (wz hc) (by rw[he];show(false||(EB fe).any (·.1))=false;rw[rg];rfl) Tw (su ⟨rfl,?_⟩ vZ)
 have hq:=cU (ha fe pins s σ H _ I h) fun us s2 ⟨vs,H2,I2,r2,q2⟩=>show us.length≤sizeLine∧(∀b o,X.base.get? b=some o→s2.heap.get? b=some o)∧∀h' e,Heap.MadeExcOf s2.heap h' e (.ref C) us→X.xe (.ref e) {s2 with heap:=h'}from
  ⟨by rw[←r2.length];exact q2.1,I2.bk,fun h' e hx=>hX.raise pins σ H2 s2 h' e (.ref C) us I2 hx q2.2⟩
 rw[he]at hq⊢;exact evalArgs_plain (wpAny_mono hq (fun vs s2 h2=>⟨rfl,h2.1,h2.2.1 _ _ hC,hN.keeps h2.2.1,T.keeps h2.2.1,h2.2.2⟩) fun _ _ y=>y)
end
section
variable{X:Cx}{e v1 v2:Expr}{es:List Expr}{te:TE}{pos:Pos}
def aft(te:TE):TE:=fun σ H Q=>te σ H fun x H1=>(∃y,x= .str y∧y.length≤sizeLine∧Q (.str y) H1)∨∃i:Int,x= .int i∧i.natAbs.log2<1920∧Q (.str (Sl i)) H1
theorem avG(h:PE X e te):PE X (.FormattedValue e (-1) none pos) (aft te):=by
 intro pins s σ H Q I hq;refine FormattedValue_plain (cU (wt hq) fun u s1 ⟨x,H1,I1,r1,q1⟩=>?_);rcases q1 with⟨y,rfl,hy,q⟩|⟨i,rfl,hi,q⟩
 ·obtain⟨t,rfl⟩:=r1;exact formatField_str (fun t' tk=>⟨.str y,H1,I1.tok _,⟨_,rfl⟩,q⟩) hy
 ·obtain⟨t,rfl⟩:=r1;exact formatField_int_small hi ⟨.str (Sl i),H1,I1.tok _,⟨_,rfl⟩,q⟩
abbrev TJ:=Str→TE
def PJ(X:Cx)(es:List Expr)(t:TJ):Prop:=
 ∀(acc:Str)(pins:List (Addr×Obj))(s:Shared)(σ:St)(H:Hp)(Q:VK),Inv X pins σ H s→t acc σ H Q→wpAny Ak X.A (joinParts acc (evalEach es X.env)) (DR Q) X.xe s
def aoz:TJ:=fun acc _ H Q=>acc.length≤sizeLine∧Q (.str acc) H
def ale(te:TE)(t:TJ):TJ:=fun acc σ H Q=>te σ H fun x H1=>∃y,x= .str y∧(acc++y).length≤sizeLine∧t (acc++y) σ H1 Q
theorem yh:PJ X [] aoz:=fun acc _ s σ H Q I h=>joinParts_nil ⟨.str acc,H,I.tok _,⟨_,rfl⟩,h.2⟩ h.1
theorem fR{t}(h1:PE X e te)(h2:PJ X es t):PJ X (e::es) (ale te t):=by
 intro acc pins s σ H Q I h;refine joinParts_cons (cU (h1 pins s σ H _ I h) fun u s1 ⟨x,H1,I1,r1,y,e,hl,q⟩=>?_);subst e;obtain⟨tk,rfl⟩:=r1;exact⟨hl,h2 _ pins s1 σ H1 Q I1 q⟩
theorem aiM{t}(h:PJ X (v1::v2::es) t):PE X (.JoinedStr (v1::v2::es) pos) (t Str.empty):=fun pins s σ H Q I hq=>JoinedStr_many (h Str.empty pins s σ H Q I hq)
end
abbrev Cx.aif(X:Cx)(e:Addr):Cx:={X with A:=X.A.mark (some (.ref e)),calm:=false,xe:=fun _ _=>False}
section
variable{X:Cx}{pins:List (Addr×Obj)}{σ:St}{H:Hp}{s:Shared}{ea C:Addr}{B:Heap}{a0:Value}
end
abbrev TH:=Addr→TS
def Ends.drop(D:Ends)(i:Nat):Ends:={nx:=fun σ H=>D.nx (pE i) H,rt:=D.rt,bk:=fun σ H=>D.bk (pE i) H,ct:=fun σ H=>D.ct (pE i) H}
section
variable{X:Cx}{x n:Str}{np pos:Pos}{b0:Stmt}{aif:List Stmt}{rest:List ExceptHandler}{ts:TS}{tr:TH}{Dc:Addr}{i:Nat}
end
def gv(env:Env):List (Str×NameKind)→List (Str×Addr)→List (Str×Addr)
 |[],acc=>acc
 |(n,k)::r,acc=>if k= .free then gv env r ((n,(qh n).getD 0)::acc)else gv env r acc
theorem anw{env}{scope}(h:∀x∈scope.names,x.2= .free→∃c,env.cells.lookup x.1=some c):closureFor scope env=pure (j8 env):=by
 unfold closureFor
 suffices H:∀(l:List (Str×NameKind))(acc:List (Str×Addr)),(∀x∈l,x.2= .free→∃c,env.cells.lookup x.1=some c)→
   (forIn l acc fun(x:Str×NameKind)(cs:List (Str×Addr))=>if (x.2==NameKind.free)=true then do let c←cellOf env x.1;pure (IF ((x.1,c)::cs))else pure (IF cs):Sem (List (Str×Addr)))=pure (ku l) by
  have:=H scope.names [] h;simpa using this
 intro l
 induction l with
 |nil=>intro acc _;rfl
 |cons x r ih=>
  intro acc hl;obtain⟨n,k⟩:=x;rw[List.forIn_cons];by_cases hk:k= .free
  ·subst hk;obtain⟨c,hc⟩:=hl (n, .free) List.mem_cons_self rfl;have MV:env.cells.lookup n=some c:=hc;simp only[beq_self_eq_true,if_true,cellOf,MV,gv,Option.getD_some];show(pure _>>=_)=_;rw[pure_bind];exact ih _ fun y hy=>qR y
  ·have hb:(k==NameKind.free)=false:=by simpa using hk
   simp only[hb,Bool.false_eq_true,if_false,gv,hk];rw[pure_bind];exact ih _ fun y hy=>qR y
theorem kQ{env}{c}:∀{l:List (Str×NameKind)}{acc:List (Str×Addr)},(∀y∈l,y.2= .free→∃c,env.cells.lookup y.1=some c)→
  (∀y d,acc.lookup y=some d→env.cells.lookup y=some d)→(ku l).lookup x=some c→env.cells.lookup x=some c
 |[],acc,_,ha,h=>ha x c h
 |(n,k)::r,acc,hl,ha,h=>by
  unfold gv at h;have hr:∀y∈r,y.2= .free→∃c,env.cells.lookup y.1=some c:=fun y hy=>qR y
  split at h
  ·rename_i hk
   obtain⟨d,hd⟩:=hl (n,k) List.mem_cons_self hk;refine kQ hr (fun y e he=>?_) h;rw[List.lookup_cons]at he;split at he
   ·rename_i q
    have q':y=n:=by simpa using q
    subst q';have Pe:env.cells.lookup y=some d:=hd;rw[Pe,Option.getD_some]at he;cases he;exact Pe
   ·exact ha y e he
  ·exact kQ hr ha h
theorem qc{env}:∀{l:List (Str×NameKind)}{acc:List (Str×Addr)},((x,NameKind.free)∈l∨∃c,acc.lookup x=some c)→∃c,(ku l).lookup x=some c
 |[],acc,h=>by
  rcases h with h|h
  ·simp at h
  ·exact h
 |(n,k)::r,acc,h=>by
  unfold gv;split
  ·rename_i hk
   refine qc ?_;rcases h with h|⟨c,h⟩
   ·rcases List.mem_cons.mp h with e|e
    ·injection e with e1 e2;subst e1;exact .inr ⟨(qh x).getD 0,by simp[List.lookup_cons]⟩
    ·exact .inl e
   ·by_cases q:x=n
    ·subst q;exact .inr ⟨(qh x).getD 0,by simp[List.lookup_cons]⟩
    ·refine .inr ⟨c,?_⟩;rw[List.lookup_cons];have:(x==n)=false:=by simpa using q
     rw[this];exact h
  ·rename_i hk
   refine qc ?_;rcases h with h|h
   ·rcases List.mem_cons.mp h with e|e
    ·injection e with e1 e2;exact BO e2.symm hk
    ·exact .inl e
   ·exact .inr h
theorem acW{env:Env}{x}:∀{names:List (Str×NameKind)},names.lookup x=some .free→
  (names.map fun(n,k)=>if (k==NameKind.free&&env.scope.kind== .function&&env.kindOf n==some .cell)then(n,NameKind.cell)else(n,k)).lookup x=some .cell∨
  (names.map fun(n,k)=>if (k==NameKind.free&&env.scope.kind== .function&&env.kindOf n==some .cell)then(n,NameKind.cell)else(n,k)).lookup x=some .free
 |[],h=>by simp at h
 |(n,k)::r,h=>by
  have ih:=@acW env x r;show List.lookup x ((if (k==NameKind.free&&env.scope.kind== .function&&env.kindOf n==some .cell)=true then(n,NameKind.cell)else(n,k))::_)=_∨List.lookup x ((if (k==NameKind.free&&env.scope.kind== .function&&env.kindOf n==some .cell)=true then(n,NameKind.cell)else(n,k))::_)=_;rw[List.lookup_cons]at h;by_cases hc:(k==NameKind.free&&env.scope.kind== .function&&env.kindOf n==some .cell)=true
  ·rw[A7 hc,List.lookup_cons];cases hx:x==n with
   |true=>exact .inl rfl
   |false=>rw[hx]at h;exact ih h
  ·rw[A6 hc,List.lookup_cons];cases hx:x==n with
   |true=>rw[hx]at h;exact .inr h
   |false=>rw[hx]at h;exact ih h
theorem aau{env:Env}{x}:∀{names:List (Str×NameKind)},(∀y∈names,y.2≠ .cell)→
  ((names.map fun(n,k)=>if (k==NameKind.free&&env.scope.kind== .function&&env.kindOf n==some .cell)then(n,NameKind.cell)else(n,k)).lookup x=some .cell∨
  (names.map fun(n,k)=>if (k==NameKind.free&&env.scope.kind== .function&&env.kindOf n==some .cell)then(n,NameKind.cell)else(n,k)).lookup x=some .free)→(x,NameKind.free)∈names
 |[],_,h=>by simp at h
 |(n,k)::r,hc,h=>by
  have ih:=@aau env x r fun y hy=>hc y (Ep hy)
  have h2:List.lookup x ((if (k==NameKind.free&&env.scope.kind== .function&&env.kindOf n==some .cell)=true then(n,NameKind.cell)else(n,k))::_)=_∨List.lookup x ((if (k==NameKind.free&&env.scope.kind== .function&&env.kindOf n==some .cell)=true then(n,NameKind.cell)else(n,k))::_)=_:=h;clear h;by_cases hq:(k==NameKind.free&&env.scope.kind== .function&&env.kindOf n==some .cell)=true
  ·rw[A7 hq,List.lookup_cons]at h2;cases hx:x==n with
   |true=>
    have e:x=n:=by simpa using hx
    subst e;have hk:k= .free:=by
     rw[Bool.and_eq_true,Bool.and_eq_true]at hq;simpa using hq.1.1
    subst hk;exact List.mem_cons_self
   |false=>rw[hx]at h2;exact Ep (ih h2)
  ·rw[A6 hq,List.lookup_cons]at h2;cases hx:x==n with
   |true=>
    rw[hx]at h2;have e:x=n:=by simpa using hx
    subst e;rcases h2 with h|h
    ·have h':some k=some NameKind.cell:=h;exact BO (Aw h') (hc (x,k) List.mem_cons_self)
    ·have h':some k=some NameKind.free:=h;rw[Aw h'];exact List.mem_cons_self
   |false=>rw[hx]at h2;exact Ep (ih h2)
def gN(X:Cx)(scope:Scope)(N:List Str)(dQ:Shared)(fA:Hp)(C:Addr)(fp:List Addr)(pn:List (Addr×Obj)):Cx:=
 {X with N:=N,dQ:=dQ,fA:=fA,env:=ZW C,outer:=X.stack,ex:=fp,fn:=fun _=>false,pn:=pn,xe:=fun _ _=>False}
structure bx(N:List Str)(sc:Scope)(scope:Scope)(ls:List Str)(js:List Nat)(cs:List Str):Prop where
 kind:scope.kind= .function
 LQ:∀x∈scope.names,x.2≠ .cell
 names:∀x∈scope.names,x.2= .local→scope.names.lookup x.1=some .local
 loc:∀x∈ls,scope.names.lookup x=some .local
 at_:cs=js.filterMap (N[·]?)
 len:cs.length=js.length
 VM:∀x∈cs,scope.names.lookup x=some .free∧(sc.names.lookup x=some .cell∨sc.names.lookup x=some .free)
 free:∀x∈scope.names,x.2= .free→(sc.names.lookup x.1=some .cell∨sc.names.lookup x.1=some .free)
 nd:(ls++cs).Nodup
section
variable{X:Cx}{pins:List (Addr×Obj)}{σ:St}{H:Hp}{s:Shared}{scope:Scope}{ls cs:List Str}{js:List Nat}{fp:List Addr}
theorem bx.has(S:bx X.N X.env.scope scope ls js cs)(ok:X.Ok):∀x∈scope.names,x.2= .free→∃c,X.env.cells.lookup x.1=some c:=fun x hx hf=>ok.has x.1 (S.free x hx hf)
def l'(ls:List Str)(js:List Nat)(σ:St):St:=ls.map (fun _=>none)++js.map fun j=>(σ[j]?).join
theorem anU(S:bx X.N X.env.scope scope ls js cs)(I:Inv X pins σ H s)(hf:∀b∈fp,IU H)(hl:∀b∈fp,b<s.heap.objs.size):(zO X s H).Ok:=by
 have uA:∀{x:Str}{c:Addr},(j8 X.env).lookup x=some c→X.env.cells.lookup x=some c:=fun{x c} h=>kQ Z' (fun y d h=>by simp at h) h
 refine⟨I.ok.mod,S.kind,I.ok.glob,I.ok.blt,Nat.le_refl _,fun x y c h1 h2=>I.ok.inj x y c (uA h1) (uA h2),fun x h=>qc (.inl (aau S.LQ h)),(fun x c h=>Bool.noConfusion (show false=true from h)),I.ok.hd,I.ok.frames, .inl rfl,fun b hb=>⟨Dn (hl b hb),fun x c h=>(FK b).2.2.2.2.1 x c (uA h)⟩,
  I.bs,E3 I.ok.MR I.sz,fun b o e hb=>?_,fun b hb hm=>?_,I.stack,I.x5⟩
 ·rcases(FK b).2.2.2.1 with z|z
  ·exact I.ok.MS b o e z
  ·exact BO (sL I.ok.MR) (Nat.not_lt.mpr z)
 ·rcases List.mem_cons.mp (I.uk b hm)with z|z
  ·exact(FK b).2.1 z
  ·exact(FK b).2.2.1 z
theorem atX{h1}(S:bx X.N X.env.scope scope ls js cs)(I:Inv X pins σ H s)(hf:∀b∈fp,IU H)(hl:∀b∈fp,b<s.heap.objs.size)
  (hn:h1.Ns s.heap.objs.size m) (hk:∀b o,s.heap.get? b=some o→h1.get? b=some o):
  Inv (zO X s H) [] (G_ σ) H {s with heap:=h1}:=by
 have uA:∀{x:Str}{c:Addr},(j8 X.env).lookup x=some c→X.env.cells.lookup x=some c:=fun{x c} h=>kQ Z' (fun y d h=>by simp at h) h
 have len:(G_ σ).length=(ls++cs).length:=by
  unfold l';rw[List.length_append,List.length_append,List.length_map,List.length_map,S.len]
 refine⟨anU S I hf hl,rfl,I.bare,Un.kept hk,⟨m,hn,fun i x v e1 e2 e3=>?_⟩,fun x c e=>?_,HA Bj,fun x c e=>KA (uA e),fun p hp=>?_,I.cc.kept hk,len⟩
 ·have e1:(ls++cs)[i]?=some x:=e1;unfold l' at e2;by_cases hi:i<ls.length
  ·rw[Bi (by simpa using hi),List.getElem?_map]at e2;cases q:ls[i]? with
   |none=>rw[q]at e2;cases e2
   |some y=>rw[q]at e2;cases e2
  ·have BB:ls.length≤i:=Nat.not_lt.mp hi;rw[Br (by simpa using BB),List.getElem?_map,List.length_map]at e2;rw[Br BB]at e1;obtain⟨XU,vU⟩:=S.VM x (B7 e1);cases q:js[i-ls.length]? with
   |none=>rw[q]at e2;cases e2
   |some j=>
    rw[q]at e2;have e2:(σ[j]?).join=some v:=Aw e2;have eN:X.N[j]?=some x:=by
     have aux:∀(js:List Nat)(cs:List Str)(i:Nat),cs=js.filterMap (X.N[·]?)→cs.length=js.length→∀j x,js[i]?=some j→cs[i]?=some x→X.N[j]?=some x:=by
      intro js
      induction js with
      |nil=>intro cs i _ _ j x hj _;simp at hj
      |cons a r ih=>
       intro cs i he hl j x hj hx;rw[List.filterMap_cons]at he;cases qa:X.N[a]? with
       |none=>
        rw[qa]at he;have hle:=Ζ (X.N[·]?) r;simp only at he;rw[he,List.length_cons]at hl
        lia
       |some y=>
        rw[qa]at he;simp only at he;subst he;cases i with
        |zero=>
         simp at hj hx;subst hj hx;exact qa
        |succ i=>exact ih _ i rfl (by simpa using hl) j x (by simpa using hj) (by simpa using hx)
     exact aux js cs _ S.at_ S.len j x q e1
    obtain⟨mX,_,awb⟩:=I.loc;have anE:σ[j]?=some (some v):=by
     cases z:σ[j]? with
     |none=>rw[z]at e2;cases e2
     |some w=>rw[z]at e2;rw[show w=some v from e2]
    obtain⟨u,r,l⟩:=awb j x v eN anE (vU.elim (fun z=> .inr (.inl z)) fun z=> .inr (.inr z));refine⟨u,r,?_⟩;rcases l with⟨z,_⟩|⟨_,c,z1,o,z2,z3⟩
    ·have z:X.env.scope.names.lookup x=some .local:=z;rcases vU with w|w<;>(rw[z]at w;cases w)
    ·refine .inr ⟨acW XU,c,?_,o,hk c o z2,z3⟩;obtain⟨c',MV⟩:=qc (env:=X.env) (l:=scope.names) (acc:=[]) (x:=x) (.inl (W8 XU));have:=uA MV;rw[z1]at this;cases this;exact MV
 ·obtain⟨v,o,z1,z2⟩:=I.cell x c (uA e);exact⟨v,o,hk c o z1,z2⟩
 ·have hp:p∈X.pn++pins:=by simpa[gN]using hp
  obtain⟨e,n,ne,nf,d⟩:=Og hp;refine⟨hk _ _ e,n,Dn oT,fun hm=>?_,d⟩;rcases List.mem_cons.mp (I.uk p.1 hm)with z|z
  ·exact ne z
  ·exact nf z
end
section
variable{prog:Program}{w:World}{A:Around}{R:Result→Shared→Prop}{s:Shared}
theorem aes{target:Expr}{it:Value}{env}(L:Nat→Shared→Prop)
  (turn:∀n s,L n s→wpAny AR A (pyNext it) (fun r cf=>match r with
   |none=>R (.ok .next) cf
   |some v=>wpAny AR A (nz target it v) (fun _ LR=>wpAny AR A (assign target env v) (fun _ rk=>
     wpAny AR A (forIn ifs true fun c r=>if r=true then do let ok←isTrue c env (eval c env);pure (IF ok)else pure (IF r)) (fun ok ES=>
      if ok=true then wpAny AR A (eval elt env) (fun x Rb=>
       wpAny AR A (call (.builtin "list.append") [acc,x]) (fun _ Rg=>∃m,m<n∧L m Rg) (fun _ _=>False) Rb) (fun _ _=>False) ES
      else ∃m,m<n∧L m ES) (fun _ _=>False) rk) (fun _ _=>False) LR) (fun _ _=>False) cf) (fun _ _=>False) s)
  (n) (h:L n s):codeAny AR A (.compLoop (.ListComp elt [⟨target,iter,ifs,0⟩] scope pos) 0 it acc env) R s:=by
 refine codeAny_loop rfl L (fun n s hI=>?_) n h;show wpAny _ A ((compTurn (.ListComp elt [⟨target,iter,ifs,0⟩] scope pos) 0 it acc env).onRaise (fun x=>do noteFrame x env;theTreesLotGoes x)) _ _ s;refine wpAny_noted ?_;rw[compTurn_list];refine wpAny_mono (E:=fun _ _=>False) ?_ (fun _ _ q=>q) fun _ _ z=>E2 z
 refine wpAny_bind (Zr (Ax (wpAny_mono (turn n s hI) (fun r cf ER=>?_) fun _ _ h'=>h')));cases r with
 |none=>exact B2 ER
 |some v=>
  refine wpAny_bind (wpAny_mono ER (fun _ LR ER=>?_) fun _ _ h'=>h');refine wpAny_bind (wpAny_mono ER (fun _ rk GO=>Ax (wpAny_mono GO (fun ok ES JX=>?_) fun _ _ h'=>h')) fun _ _ h'=>h');cases ok with
  |false=>exact B2 ⟨rfl,JX⟩
  |true=>
   exact Ax (Ax (wpAny_mono JX (fun x Rb auR=>Ax (wpAny_mono auR (fun _ Rg alj=>B2 (B2 ⟨rfl,alj⟩)) fun _ _ h'=>h')) fun _ _ h'=>h'))
end
def Rh(X:Cx)(ifs:List Expr)(t:TT):Prop:=
 ∀(pins:List (Addr×Obj))(s:Shared)(σ:St)(H:Hp)(Q:Bool→Hp→Prop),Inv X pins σ H s→t σ H Q→
  wpAny Ak X.A (forIn ifs true fun c r=>if r=true then do let ok←isTrue c X.env (eval c X.env);pure (IF ok)else pure (IF r)) (pN Q) X.xe s
def NB:TT:=fun _ H Q=>Q true H
theorem gO:Rh X [] NB:=fun _ _ _ H _ I h=>wpAny_tests_nil ⟨H,I,h⟩
theorem DI{X}{c}{t}(h:PT X c t):Rh X [c] t:=fun pins s σ H Q I hq=>wpAny_tests_one (h pins s σ H Q I hq)
def tf(J:It)(ls:List Str)(js:List Nat)(g:TG)(tt:TT)(te:TE)(σ:St)(H1:Hp)(D:Addr)(Q:VK):Prop:=
 ∃W:Nat→Nat→List V→St→Hp→Prop,(∃m,W 0 m [] (G_ σ) (Gr H1 D))∧∀i m ys bK H',W i m ys bK H'→
 (J.stop i H'∧Q (.ref D) H')∨(J.go i H'∧∃N:List V→St→Hp→Prop,(∀LS f6 H2,N LS f6 H2→∃m',m'<m∧W (i+1) m' LS f6 H2)∧∀x H2,J.JL i H' x H2→g x bK H2 fun f6 H3=>tt f6 H3 fun b H4=>
  if b=true then te f6 H4 fun y H5=>H5 D=some (.lst ys)∧ys.length<sizeLine∧N (ys++[y]) f6 J0 else N ys f6 H4)
def adJ(wi:TI)(ls:List Str)(js:List Nat)(g:TG)(tt:TT)(te:TE):TE:=fun σ H Q=>wi σ H fun J H1=>∀D,H1 D=none→tf J ls js g tt te σ H1 D Q
section
variable{X:Cx}{tg iter elt:Expr}{ifs:List Expr}{scope:Scope}{pos:Pos}{wi:TI}{g:TG}{tt:TT}{te:TE}{ls cs:List Str}{js:List Nat}
theorem xE(hc:X.calm=true)(S:bx X.N X.env.scope scope ls js cs)(hi:PI X tg iter wi)
  (hg:∀dQ fA C fp pn,sO g) (ht:∀dQ fA C fp pn,eO tt) (he:∀dQ fA C fp pn,gI te)
  (I:Inv X pins σ H s) (h:adJ wi ls js g tt te σ H Q)
  (avi:∀(D C:Addr)(H':Hp)(s':Shared)(m:Str→Option Value),Inv X pins σ H' s'→Q (.ref D) H'→s'.heap.Ns C m→i4 X pins H' C→compPost Ak X.A X.xe use QQ (.ref D) C (.ok .next) s')
  (hs:∀x,foldedSetIterable iter X.env x=pure x:=by intro _;rfl):
  wpAny Ak X.A (ς use) QQ X.xe s:=by
 refine wpAny_comprehension_free rfl hs (anw Z') S.kind S.names (cU Xe fun v s1 h1=>cU h1 fun Vn s2 h2=>?_);obtain⟨it,fp,tn,J,H2,rfl,I2,T,eh,f2,hW⟩:=h2;have XW:∀b∈fp,b<s2.heap.objs.size:=fun b hb=>by
  obtain⟨o,e,_⟩:=T.obj 0 _ eh b hb;exact Bf e
 refine wpAny_newObj_type ?_;have hD:H2 s2.heap.objs.size=none:=apl Bj;obtain⟨W,⟨m0,w0⟩,turn⟩:=hW _ hD;have I3:Inv X pins σ vi {s2 with heap:=s2.heap.push {cls:= .type "list",dict:=none,data:= .seq ([]:List Value).toArray}}:=
  I2.laid (t':=s2.toks) (fun b u e=>BL e) (Nat.le_refl _) ⟨Nat.zero_le _,[],0, .nil,Heap.get?_push_size _ rfl⟩
 have f3:∀b∈fp,i4 X pins vi b:=fun b hb=>⟨by rw[aq (Dn (XW b hb))];exact(f2 b hb).1,(f2 b hb).2⟩
 generalize hH3:upd H2 s2.heap.objs.size (.lst [])=H3 at I3 f3 w0;generalize Ri:({s2 with heap:=s2.heap.push {cls:= .type "list",dict:=none,data:= .seq ([]:List Value).toArray}}:Shared)=s3 at I3;have XX:∀b∈fp,b<s3.heap.objs.size:=fun b hb=>by
  rw[←Ri];show b<(s2.heap.push _).objs.size;rw[Heap.size_push];exact Xp (XW b hb)
 have GB:tn 0 s3.heap:=T.keep 0 _ _ eh fun b hb o e=>by rw[←Ri];exact BL e
 refine wpAny_newFunctionEnv S.LQ (by intro y hy;simp at hy) (fun h4 Ts Rj=>?_) S.kind;have k4:∀b o,s3.heap.get? b=some o→h4.get? b=some o:=fun b o e=>Rj.extBut b o yZ (BL e)
 have I4:=atX (h1:=h4) S I3 f3 XX Ts k4;have ajC:=I4.tok (s3.toks+([]:List (Str×Value)).length);have Tx:tn 0 h4:=T.keep 0 _ _ GB fun b hb o e=>k4 b o e
 show codeAny Ak X.A (.compStart (.ListComp elt [⟨tg,iter,ifs,0⟩] scope pos) 0 (.ref it) (.ref s2.heap.objs.size) (ZW s3.heap.objs.size)) (vC QQ) _;have BM:∀{H':Hp},(∀b∈fp,H' b=none)→∀b∈fp,i4 MK [] H' b:=fun{H'} hn b hb=>by
  obtain⟨q1,q2,q3,q4,q5,q6⟩:=f3 b hb;refine⟨hn b hb,Dn (XX b hb),fun hm=>?_, .inl hb,fun x c e=>q5 x c (kQ Z' (fun y d z=>by simp at z) e),fun p hp=>q6 p (by simpa[gN]using hp)⟩;rcases List.mem_cons.mp (I3.uk b hm)with z|z
  ·exact q2 z
  ·exact q3 z
 have loop:codeAny Ak X.A (.compLoop (.ListComp elt [⟨tg,iter,ifs,0⟩] scope pos) 0 (.ref it) (.ref s2.heap.objs.size) (ZW s3.heap.objs.size)) (vC QQ)
   {s3 with heap:=h4,toks:=s3.toks+([]:List (Str×Value)).length}:=by
  refine aes (fun n s'=>∃i bK H',Inv MK [] bK H' s'∧tn i s'.heap∧(∀b∈fp,H' b=none)∧∃ys,W i n ys bK H') ?_ m0 ⟨0,_,_,ajC,Tx,fun b hb=>(f3 b hb).1,[],w0⟩;rintro n s5 ⟨i,Tz,H5,I5,Pj,To,ys,w5⟩;rcases turn i n ys Tz H5 w5 with⟨stop,qn⟩|⟨go,N,hN,step⟩
  ·refine cU (T.done MK rfl rfl rfl hc i [] s5 Tz H5 QH I5 (BM To) Pj stop) fun r s6 ⟨hr,I6⟩=>?_
   subst hr;obtain⟨m,hm,_⟩:=id I6.loc;have un:Un sU fp H3 H5 s3.heap s6.heap:=I6.base;have I7:Inv X pins σ H5 s6:=I3.amt (ch:=fp) I6.os un I6.cc I6.bare fun b hb=>by
    obtain⟨q1,q2,q3,q4,q5,q6⟩:=f3 b hb;exact⟨q4,q2,q5,q6⟩
   have fc:i4 X pins H5 s3.heap.objs.size:=I3.ur Bj I6.free;exact avi _ _ H5 s6 m I7 qn hm fc
  ·refine cU (T.item MK rfl rfl rfl hc i [] s5 Tz H5 QH I5 (BM To) Pj go) fun r s6 ⟨u,hr,h6⟩=>?_
   subst hr;refine cU h6 fun _ s7 ⟨x,H7,I7,r7,y7,VQ,arw⟩=>?_
   have amf:=I7.pinned (BM arw) (T.obj _ _ VQ);refine cU (hg _ _ _ _ _ _ s7 Tz H7 x u _ amf r7 (step x H7 y7)) fun _ s8 ⟨TC,H8,I8,q8⟩=>?_
   refine cU (ht _ _ _ _ _ _ s8 TC H8 _ I8 q8) fun b s9 ⟨H9,I9,q9⟩=>?_
   have again:∀{LS:List V}{bK:St}{H':Hp}{s':Shared},Inv MK ([]++uv fp s7.heap) bK H' s'→N LS bK H'→
     ∃m,m<n∧∃i bK H',Inv MK [] bK H' s'∧tn i s'.heap∧(∀b∈fp,H' b=none)∧∃ys,W i m ys bK H':=fun{LS bK H' s'} I' n'=>by
    obtain⟨m',Ha,w'⟩:=hN LS bK H' n';refine⟨m',Ha,i+1,bK,H',I'.mJ,T.keep _ _ _ VQ fun b hb o e=>(ahe (b,o)).1,fun b hb=>?_,LS,w'⟩;obtain⟨o,e,d⟩:=T.obj _ _ VQ b hb;exact(ahe (b,o)).2.1
   cases b with
   |false=>exact again I9 q9
   |true=>
    refine cU (he _ _ _ _ _ _ s9 TC H9 _ I9 q9) fun u2 F1 ⟨y,Hb,ait,arK,ail,hz,aod⟩=>?_
    refine cU (aaN _ F1 TC Hb (.ref s2.heap.objs.size) [y] (.ref s2.heap.objs.size) [u2] (fun _ H'=>N (ys++[y]) TC H') ait rfl (.cons arK .nil) ⟨_,ys,y,rfl,rfl,ail,hz,aod⟩) fun _ J9 ⟨_,Pn,ajI,_,alM⟩=>?_
    exact again ajI alM
 exact codeAny_compStart_list loop (T.self _ 0 _ _ _ Tx loop)
theorem j_(hc:X.calm=true)(S:bx X.N X.env.scope scope ls js cs)(hi:PI X tg iter wi)
  (hg:∀dQ fA C fp pn,sO g) (ht:∀dQ fA C fp pn,eO tt) (he:∀dQ fA C fp pn,gI te)
  (hs:∀x,foldedSetIterable iter X.env x=pure x:=by intro _;rfl):PE X (.ListComp elt [⟨tg,iter,ifs,0⟩] scope pos) (aqc g):=by
 intro pins s σ H Q I h;rw[eval_ListComp];refine xE (use:=none) hc S hi hg ht he I h (fun D C H' s' m I' q hm fc=>⟨m,hm,fun h' Rj=>?_⟩) hs;obtain⟨q1,q2,q3,q4,q5,q6⟩:=fc;exact⟨.ref D,H',I'.turned (t':=s'.toks) (fun b o hb e=>Rj.extBut b o hb e) q1 (Ay (Ay q2)) q4 q5 q6,rfl,q⟩
theorem qf{x}{i}{pos' Rk}(hc:X.calm=true)(hN:X.N.Nodup)(BB:X.N[i]?=some x)(hx:X.env.scope.names.lookup x=some .local)(S:bx X.N X.env.scope scope ls js cs)(hi:PI X tg iter wi)
  (hg:∀dQ fA C fp pn,sO g) (ht:∀dQ fA C fp pn,eO tt) (he:∀dQ fA C fp pn,gI te)
  (VR:swapsWith (.ListComp elt [⟨tg,iter,ifs,0⟩] scope pos) (some (.Name x pos')) Rk.line X.env=pure true:=by rfl)
  (hs:∀x,foldedSetIterable iter X.env x=pure x:=by intro _;rfl):PS X (.Assign [.Name x pos'] (.ListComp elt [⟨tg,iter,ifs,0⟩] scope pos) Rk) (M6 (aqc g) (Ds i)):=by
 intro pins s σ H D I h;rw[exec_Assign_Name_used _ _ _ _ VR];refine wpAny_bind (Zr wV);show wpAny _ X.A (do let _←ς (some (assign (.Name x pos') X.env))) _ _ s;refine wpAny_bind (wpAny_mono (xE (use:=some (assign (.Name x pos') X.env)) (QQ:=fun _ s'=>SP X pins D .next s') hc S hi hg ht he I h (fun Dl C H' s' m I' q hm fc=>?_) hs) (fun _ s' hq=>B2 (B2 hq)) fun _ _ e=>e);show wpAny _ X.A (assign (.Name x pos') X.env (.ref Dl)) _ _ _;obtain⟨q1,q2,q3,q4,q5,q6⟩:=fc;refine wpAny_assign_Name (xp (v:= .ref Dl) I' hN BB (.inl hx) rfl (fun s2 I2 ⟨a,Rj,ha⟩=>?_) (.inr hx));have ed:C≠a:=by
  rcases ha with rfl|ha
  ·exact q2
  ·exact fun z=>q5 x a ha z.symm
 refine⟨m,hm.sameBut Rj ed,fun h' ajS=>?_⟩;exact⟨_,H',I2.turned (t':=s2.toks) (fun b o hb e=>ajS.extBut b o hb e) q1 q2 q4 q5 q6,q⟩
end
def TK(z:Str):It:=⟨fun i _=>i<z.length,fun i H x H'=>H'=H∧∃c,z.cps.toList[i]?=some c∧x= .str ⟨#[c]⟩,fun i _=>z.length≤i⟩
theorem agt{K:Frag}{t}(FY:ty="str_ascii_iterator"∨ty="str_iterator"):Turn P w K tg (TK z) [it] it (fun i h=>h.IsStrIter it ty z t i) where
 mem:=AA
 obj:=fun i h st b hb=>by
  have e:b=it:=by simpa using hb
  subst e;obtain⟨o,e,c,d⟩:=st;exact⟨o,e,fun v z=>by rw[d]at z;cases z⟩
 keep:=fun i h h' st k=>let ⟨o,ho,r⟩:=st;⟨o,k it (AA) o ho,r⟩
 item:=by
  intro X hP hw hK hc i pins s σ H E I hf st hg;subst hP hw hK;obtain⟨f0,f1,f2,f3,f4,f5⟩:=FW it;have hg:i<z.cps.size:=hg;have key:∀h',h'.IsStrIter it ty z t (i+1)→Heap.SameBut it s.heap h'→∃u,some (Value.str ⟨#[z.cps[i]]⟩ s.toks)=some u∧
    wpAny Ak X.A ave (fun _ s2=>∃x H',Inv X pins σ H' s2∧RelV x u∧(TK z).JL i H x H'∧s2.heap.IsStrIter it ty z t (i+1)∧∀b∈[it],H' b=none) E {s with heap:=h',toks:=s.toks+1}:=fun h' aW sb=>by
   have I1:Inv X pins σ H {s with heap:=h',toks:=s.toks+1}:=I.turned (fun b o hb e=>(Pa b).trans e) f0 f1 f3 f4 f5;obtain⟨o,e,c,d⟩:=id aW;refine⟨_,rfl,xq (s:={s with heap:=h',toks:=s.toks+1}) e c d (by rcases FY with rfl|rfl<;>decide) ⟨.str ⟨#[z.cps[i]]⟩,H,I1,⟨_,rfl⟩,⟨rfl,z.cps[i],by simp[hg],rfl⟩,aW,fun b hb=>(FK b).1⟩⟩
  rcases FY with rfl|rfl
  ·exact wpAny_pyNext_ascii_item st (c:=z.cps[i]) (by simp[hg]) key
  ·exact wpAny_pyNext_wide_item st (c:=z.cps[i]) (by simp[hg]) key
 done:=by
  intro X hP hw hK hc i pins s σ H E I hf st hg;subst hP hw hK;obtain⟨f0,f1,f2,f3,f4,f5⟩:=FW it;have hg:z.cps.size≤i:=hg;rcases FY with rfl|rfl
  ·exact wpAny_pyNext_ascii_end Gp st (by simp[hg]) fun h' eb=>⟨rfl,MZ f5⟩
  ·exact wpAny_pyNext_wide_end Gp st (by simp[hg]) fun h' eb=>⟨rfl,MZ f5⟩
 self:=fun _ _ _ _ _ st h=>by
  rcases FY with rfl|rfl
  ·exact wpAny_pyIter_striter_ascii st h
  ·exact wpAny_pyIter_striter_wide st h
section
variable{X:Cx}{tg:Expr}
def akv(tl:TE):TI:=fun σ H R=>tl σ H fun x H1=>∃z,x= .str z∧R (TK z) H1
theorem api{l}{tl}(hl:PE X l tl):PI X tg l (akv tl):=by
 intro pins s σ H R I h;refine cU nr fun v s1 ⟨x,H1,I1,r1,q1⟩=>?_
 obtain⟨z,e,q⟩:=q1;subst e;obtain⟨t,rfl⟩:=r1;refine wpAny_pyIter_strU ?_;refine⟨s1.heap.objs.size,[s1.heap.objs.size],_,_,H1,rfl,I1.kept (t':=s1.toks) fun b o e=>BL e,agt (ty:=strIterType z) (t:=t) (by unfold strIterType;split<;>simp),⟨_,Heap.get?_push_size _ rfl,rfl,rfl⟩,fun b hb=>?_,q⟩;have e:b=s1.heap.objs.size:=by simpa using hb
 subst e;exact Z7 Bj
end
theorem nF{J}{ls}{σ}(Pv:Nat→List V→St→Hp→Prop)
  (h0:Pv 0 [] (G_ σ) (Gr H1 D)) (J_:∀i ys σ H,i<n→Pv i ys σ H→J.go i H) (uo:∀ys σ H,Pv n ys σ H→J.stop n H)
  (hs:∀i ys σ H x H2,i<n→Pv i ys σ H→J.JL i H x H2→g x σ H2 fun f6 H3=>tt f6 H3 fun b H4=>if b=true then te f6 H4 fun y H5=>H5 D=some (.lst ys)∧ys.length<sizeLine∧Pv (i+1) (ys++[y]) f6 J0 else Pv (i+1) ys f6 H4)
  (hd:∀ys σ H,Pv n ys σ H→Q (.ref D) H):
  tf J ls js g tt te σ H1 D Q:=by
 refine⟨fun i m ys σ H=>m=n-i∧i≤n∧Pv i ys σ H,⟨n,AA,Nat.zero_le _,h0⟩,?_⟩;rintro i m ys σ H ⟨rfl,hi,p⟩;by_cases iO:i<n
 ·exact .inr ⟨J_ i ys σ H iO p,Pv (i+1),fun LS f6 H2 p'=>⟨n-(i+1),by lia,rfl,iO,p'⟩,fun x H2 y=>hs i ys σ H x H2 iO p y⟩
 ·have e:i=n:=by lia
  subst e;exact .inl ⟨uo ys σ H p,hd ys σ H p⟩
theorem jy{K}{a}{xs:List V}{ls}{js}{g}{tt}{te}{σ}{H1}{D}{Q}(Pv:Nat→List V→St→Hp→Prop)
  (h0:Pv 0 [] (G_ σ) (Gr H1 D)) (hl:∀i ys σ H,i≤xs.length→Pv i ys σ H→gF K H a xs)
  (hs:∀i x ys σ H,xs[i]?=some x→Pv i ys σ H→g x σ H fun f6 H3=>tt f6 H3 fun b H4=>if b=true then te f6 H4 fun y H5=>H5 D=some (.lst ys)∧ys.length<sizeLine∧Pv (i+1) (ys++[y]) f6 J0 else Pv (i+1) ys f6 H4)
  (hd:∀ys σ H,Pv xs.length ys σ H→Q (.ref D) H):
  tf kZ ls js g tt te σ H1 D Q:=
 nF (n:=xs.length) Pv h0 (fun i ys σ H hi p=>⟨xs,xs[i],RZ p,by simp[hi]⟩) (fun ys σ H p=>⟨xs,VZ p,Nat.le_refl _⟩)
  (fun i ys σ H x H2 hi p y=>by
   obtain⟨e,y⟩:=y;subst e;exact xX i x p) hd
theorem avb{lo:Int}{n:Nat}{ls}{σ}(Pv:Nat→List V→St→Hp→Prop)
  (h0:Pv 0 [] (G_ σ) (Gr H1 D))
  (hs:∀i ys σ H,i<n→Pv i ys σ H→g (.int (lo+i)) σ H fun f6 H3=>tt f6 H3 fun b H4=>if b=true then te f6 H4 fun y H5=>H5 D=some (.lst ys)∧ys.length<sizeLine∧Pv (i+1) (ys++[y]) f6 J0 else Pv (i+1) ys f6 H4)
  (hd:∀ys σ H,Pv n ys σ H→Q (.ref D) H):
  tf (Nf n) ls js g tt te σ H1 D Q:=
 nF (n:=n) Pv h0 wN (fun ys σ H p=>Nat.le_refl _)
  (fun i ys σ H x H2 hi p y=>by
   obtain⟨e,y⟩:=y;subst e y;exact hs i ys σ _ hi p) hd
theorem apB{z}{ls}{σ}(Pv:Nat→List V→St→Hp→Prop)
  (h0:Pv 0 [] (G_ σ) (Gr H1 D))
  (hs:∀i c ys σ H,z.cps.toList[i]?=some c→Pv i ys σ H→g (.str ⟨#[c]⟩) σ H fun f6 H3=>tt f6 H3 fun b H4=>if b=true then te f6 H4 fun y H5=>H5 D=some (.lst ys)∧ys.length<sizeLine∧Pv (i+1) (ys++[y]) f6 J0 else Pv (i+1) ys f6 H4)
  (hd:∀ys σ H,Pv z.length ys σ H→Q (.ref D) H):
  tf (TK z) ls js g tt te σ H1 D Q:=
 nF (n:=z.length) Pv h0 wN (fun ys σ H p=>Nat.le_refl _)
  (fun i ys σ H x H2 hi p y=>by
   obtain⟨e,c,hc,ex⟩:=y;subst e ex;exact hs i c ys σ _ hc p) hd
theorem xF (z) (lo hi:_):(K4 z lo hi).cps.toList=(ω axa).take (HT.lD z.length z.length hi-HT.lD z.length 0 lo):=by
 have axO:=HT.GV z.length 0 (Nat.zero_le _) lo;have axz:=HT.GV z.length z.length Bj hi;have ix:Builtin.Str.strSliceIndices lo hi 1 z.length=(B5 (HT.lD z.length z.length hi-HT.lD z.length 0 lo)).map (HT.lD z.length 0 lo+·):=by
  rw[←sliceRange_one];have pos:(1:Int)>0:=AN;cases lo with
  |none=>
   cases hi with
   |none=>rfl
   |some j=>
    simp only[Builtin.Str.strSliceIndices,HT.lD,pos,if_true]
    congr 1
    by_cases h:j<0
    ·simp only[h,if_true];lia
    ·simp only[h,if_false];lia
  |some i=>
   have e1:max 0 (min (if i<0 then i+(z.length:Int)else i) (z.length:Int))=((HT.lD z.length 0 (some i):Nat):Int):=by
    simp only[HT.lD];by_cases h:i<0
    ·simp only[h,if_true];lia
    ·simp only[h,if_false];lia
   cases hi with
   |none=>
    simp only[Builtin.Str.strSliceIndices,pos,if_true];rw[e1];rfl
   |some j=>
    have e2:max 0 (min (if j<0 then j+(z.length:Int)else j) (z.length:Int))=((HT.lD z.length z.length (some j):Nat):Int):=by
     simp only[HT.lD];by_cases h:j<0
     ·simp only[h,if_true];lia
     ·simp only[h,if_false];lia
    simp only[Builtin.Str.strSliceIndices,pos,if_true];rw[e1,e2]
 have hp:=pick_run z.cps axa (HT.lD z.length z.length hi-HT.lD z.length 0 lo);unfold Txt.slice;rw[ix];split
 ·rename_i h
  simp only[List.length_map,List.length_range,beq_self_eq_true,Bool.true_and,beq_iff_eq]at h;have h0:HT.lD z.length 0 lo=0:=by lia
  have h1:HT.lD z.length z.length hi=z.length:=by lia
  rw[h0,h1,List.drop_zero,Nat.sub_zero,vD (by simp[Str.length])]
 ·rw[←hp]
theorem xG (z) (lo hi:_):(K4 z lo hi).length≤z.length:=Txt.slice_le z lo hi
section
variable{X:Cx}
def aoi:V→Option Int→Option Int→Hp→VK→Prop:=fun x lo hi H Q=>∃z,x= .str z∧z.length≤sizeLine∧Q (.str (K4 z lo hi)) H
theorem B8:Tq X aoi:=by
 intro pins s σ H x v vl vu lo hi sl Q I rx hs pl pu h;obtain⟨z,rfl,hz,q⟩:=h;obtain⟨t,rfl⟩:=rx;refine⟨"str",_,F.slot_str_getitem.lookup,typeIs_str _ _ _,?_⟩;have go:∀l u:Option (Int×Tok),vl=partValue l→vu=partValue u→l.map (·.1)=lo→u.map (·.1)=hi→wpAny Ak X.A (getItem (.str z t) (.ref sl)) (DR Q) X.xe s:=by
  rintro l u rfl rfl rfl rfl;obtain⟨o,h1,h2,h3⟩:=hs;refine wpAny_getItem_str_slice (l:=l) (u:=u) (st:=none) ⟨o,h1,h2,h3⟩ rfl ?_;exact post_val_or_str ⟨E3 (Txt.slice_le z _ _) hz,fun t' k=>⟨.str (K4 z (l.map (·.1)) (u.map (·.1))),H,I.tok _,⟨_,rfl⟩,q⟩⟩
 cases pl with
 |none=>
  cases pu with
  |none=>exact go none none rfl rfl rfl rfl
  |int j tj=>exact go none (some (j,tj)) rfl rfl rfl rfl
 |int i ti=>
  cases pu with
  |none=>exact go (some (i,ti)) none rfl rfl rfl rfl
  |int j tj=>exact go (some (i,ti)) (some (j,tj)) rfl rfl rfl rfl
theorem aai:rm X (compareOp .LtE) (fun x y H Q=>∃i j,x= .str i∧y= .str j∧Q (.bl (!decide (j.cps.toList<i.cps.toList))) H):=by
 intro pins s σ H x y v u Q I rx ry h;obtain⟨i,j,rfl,rfl,q⟩:=h;obtain⟨t,rfl⟩:=rx;obtain⟨t',rfl⟩:=ry;exact P.le_str (bQ I q rfl)
theorem aeG{bs:List Bool}(r:Vals (bs.map V.bl) us)(i:Nat) (v) (h:us[i]?=some v):v= .bool (oj i):=by
 induction bs generalizing us i with
 |nil=>cases r;simp at h
 |cons b r' ih=>
  cases r with
  |cons r0 rr=>
   cases i with
   |zero=>
    have h0:some _=some v:=h;cases h0;exact r0
   |succ i=>simpa using ih rr i (by simpa using h)
theorem all_range(bs:List Bool):(B5 bs.length).all (fun i=>oj i)=bs.all id:=by
 rw[Bool.eq_iff_iff,List.all_eq_true,List.all_eq_true];constructor
 ·intro h b hb;obtain⟨i,hi,rfl⟩:=Gq hb;have:=h i (by simpa using hi);simpa[hi]using this
 ·intro h i hi;have hi:i<bs.length:=by simpa using hi
  simpa[hi]using h bs[i] (EZ hi)
def abx(K:Frag)(f:List Bool→Bool):List V→Hp→VK→Prop:=fun xs H Q=>∃a bs,xs=[.ref a]∧gF K H a (bs.map V.bl)∧Q (.bl (f bs)) H
theorem aiX(hc:X.calm=true):jF X (.builtin "all") (abx X.K fun bs=>bs.all id):=by
 intro pins s σ H xs us Q I r h;obtain⟨a,bs,rfl,hq,q⟩:=h;cases r with
 |cons r rr=>
  cases rr;cases r;obtain⟨its,rv,p,hz⟩:=DP hq;have hl:=rv.length;rw[List.length_map]at hl;refine call_all_walk (υ ?_);have ed:a≠s.heap.objs.size:=by
   obtain⟨o,n,e,_⟩:=p;exact Dn oT
  refine⟨s.heap.objs.size,_,_,_,_,_,fun i=>oj i,rfl,Walks.list (A:=X.A.in1) (show X.A.in1.handled=none from I.ok.hd hc) _ a ed its.toArray,⟨⟨_,Heap.get?_push_size _ rfl,rfl,rfl⟩,p.isList.at fun o e=>BL e⟩,fun i v s1 Q1 E1 hv q1=>?_,fun h' tk hk=>?_⟩
  ·have hv:=aeG rv i v (by simpa using hv);subst hv;exact LH q1
  ·rw[List.size_toArray,←hl,all_range];refine⟨.bl (bs.all id),H,I.kept fun b o e=>hk b o QK (BL e),rfl,q⟩;have z:b=s.heap.objs.size:=by simpa using z
   exact IS (z▸Bf e)
def LU:V→Option Value
 | .ty n=>some (.type n)
 | .ref C=>some (.ref C)
 | _=>none
theorem aof(h:LU c=some cv)(r:RelV c u):u=cv:=by
 cases c<;>first
  |(cases h;done)
  |(cases h;exact r)
inductive ND(K:Frag)(xs:List V)(H:Hp)(Q:VK):Prop
 |mk (x) (c) (t) (b) (cv) (_:xs=[x,c]) (_:LU c=some cv) (_:rA K H x t) (_:kitOne K t cv=some b) (_:Q (.bl b) H):ND K xs H Q
theorem alh:jF X (.builtin "isinstance") (ND X.K):=by
 intro pins s σ H xs us Q I r h;obtain⟨x,c,t,b,cv,rfl,rc,ty,hk,q⟩:=h;cases r with
 |cons r1 rr=>
  cases rr with
  |cons r2 rr=>
   cases rr;cases aof rc r2;exact apM I r1 ty hk fun tk=>⟨.bl b,H,I.tok _,rfl,q⟩
end
section
variable{P:Program}{w:World}{K:Frag}{mg:Str→Option Value}{base:Heap}
abbrev amC(P:Program)(w:World)(K:Frag)(mg:Str→Option Value)(base:Heap)(cm:Bool)(N:List Str)(qual:Str)(scope:Scope)(f:Addr)(cd:Value)(A:Around)(outer:List Env)(s:Shared)(H:Hp)(E:XK):Cx:=
 BV (AU P) cm P w K mg base N qual scope f cd A outer s H E
theorem jh.f'{st:Stmt}{N:List Str}(F:jh K x qual st f fd)(S:aK N ps (au st))(len:∀vs H Q E,sp vs H Q E→vs.length=ps.length)
  (Ah:∀(gK:Value)(A:Around)(outer:List Env)(s:Shared)(H:Hp)(vs:List V)(Q:VK)(E:XK),e_ cm k (Bc (zG f))→sp vs H Q E→
   Tu Sx (fun _=>E)→
   ∃t,EE Sx (cP st) t∧t {nx:=fun _ H'=>Q .de H',rt:=Q} (start N vs) H):aZ P w K mg base (AU P) cm (k+1) f fd ps sp:=by
 obtain⟨oc,od,kV,doc,pm,an,gK,ct,GN,rfl,lk,EF⟩:=F.ex;exact aay lk EF S len fun A outer s H vs Q E hr DC=>vK A s H Q E
end
def bI(P:Program)(w:World)(K:Frag)(mg:Str→Option Value)(base:Heap)(cm:Bool)(k:Nat)(x:Str)(ps:List Str)(sp:Sp):Prop:=
 ∃f fd,aZ P w K mg base (AU P) cm k f fd ps sp∧mg x=some (.ref f)∧keepIn K (.ref f)=true∧Binds K fd ps []
theorem apE{K:Frag}{st:Stmt}(F:jh K x y st f fd)(hm:mg x=some (.ref f))(b:Binds K fd ps [])
  (ok:aZ P w K mg base (AU P) cm k f fd ps sp):bI P w K mg base cm k x ps sp:=⟨f,fd,ok,hm,F.kp,b⟩
section
variable{X:Cx}{cm:Bool}{k:Nat}{x:Str}{ps:List Str}{sp:Sp}{E:St→XK}{e:Expr}{es:List Expr}{t:TA}{p pos:Pos}
theorem aM(D:bI X.prog X.w X.K X.mg X.base cm k x ps sp)(hr:e_ cm k X.A)(hx:Passes GQ X E)(ha:PA X (e::es) t)(hg:Gl X x:=by rfl)(vZ:(x==("__debug__":Str))=false:=by decide)
  (he:starEach (e::es) X.env=(false,eval e X.env)::starEach es X.env:=by rfl) (rg:(EB pos).any (·.1)=false:=by rfl):PE X (.Call (.Name x p) (e::es) [] pos) (GJ sp [] E t):=by
 obtain⟨f,fd,ok,hm,hk,hb⟩:=D;exact wU .nil
theorem gc{v}(h:∃u,X.mg x=some u∧RelV v u)(hg:Gl X x:=by rfl)(hd:(x==("__debug__":Str))=false:=by decide):PE X (.Name x pos) (tC v):=by
 obtain⟨u,h1,h2⟩:=h;exact abW hg h1 h2 hd
end
theorem qg{σ}{H:Hp}{A B:Hp→Prop}(h:A H):NB σ H (fun b H4=>if b=true then A H4 else B H4):=by
 show if true=true then A H else B H
 exact j1 h
theorem rD{i:Nat}{x:V}{σ:St}{H}{A B:St→Hp→Prop}(h:A (Vu (some x)) H):Ds i x σ H (fun f6 H3=>NB f6 H3 (fun b H4=>if b=true then A f6 H4 else B f6 H4)):=by
 show if true=true then A (Vu (some x)) H else B (Vu (some x)) H
 exact j1 h
theorem aE(h:n≤100000):n≤sizeLine:=qE h
theorem bb(h:n≤100000):n<sizeLine:=Nat.lt_of_le_of_lt h EN
def ahE(t u:TS):TS:=fun D σ H=>∃Pm:St→Hp→Prop,t {D with nx:=Pm} σ H∧∀bK H',Pm bK H'→u D bK H'
theorem aB{X}{st}{rest}{t u}(h1:PS X st t)(h2:EE X rest u):EE X (st::rest) (ahE t u):=by
 intro pins s σ H D I h;obtain⟨Pm,ht,hu⟩:=h;refine wpAny_execs_cons (cU (h1 pins s σ H {D with nx:=Pm} I ht) fun f s1 q=>?_);cases f with
 |next=>obtain⟨bK,H',I',p⟩:=q;exact aqq D (hu bK H' p)
 |brk=>exact q
 |cont=>exact q
 |ret v=>exact q
theorem av.upd{a}(h:H a=none):av H (Hf o):=fun b u e=>by rw[aq (Fh h)];exact e
theorem av.eA{a}(s:av H H')(h:H a=none):av H (L2.upd H' a o):=fun b u e=>by rw[aq (Fh h)];exact s b u e
end L2
namespace QF
open PySem L2
theorem rh{P:List Value→Prop}(h:∀a us,us.length=n→P (a::us)):∀us:List Value,us.length=n+1→P us:=fun us e=>by
 cases us with
 |nil=>cases e
 |cons a r=>exact h a r (Nat.succ.inj e)
theorem NG{P:List Value→Prop}(h:P []):∀us:List Value,us.length=0→P us:=fun us e=>by
 cases us with
 |nil=>exact h
 |cons a r=>cases e
theorem adi{P:List Value→Prop}(h:∀a,P [a]):∀us:List Value,us.length=1→P us:=rh fun a=>NG (h a)
theorem on2{P:List Value→Prop}(h:∀a b,P [a,b]):∀us:List Value,us.length=2→P us:=rh fun a=>rh fun b=>NG (h a b)
theorem on3{P:List Value→Prop}(h:∀a b c,P [a,b,c]):∀us:List Value,us.length=3→P us:=rh fun a=>rh fun b=>rh fun c=>NG (h a b c)
theorem on4{P:List Value→Prop}(h:∀a b c d,P [a,b,c,d]):∀us:List Value,us.length=4→P us:=rh fun a=>rh fun b=>rh fun c=>rh fun d=>NG (h a b c d)
theorem on5{P:List Value→Prop}(h:∀a b c d e,P [a,b,c,d,e]):∀us:List Value,us.length=5→P us:=rh fun a=>rh fun b=>rh fun c=>rh fun d=>rh fun e=>NG (h a b c d e)
theorem on6{P:List Value→Prop}(h:∀a b c d e f,P [a,b,c,d,e,f]):∀us:List Value,us.length=6→P us:=rh fun a=>rh fun b=>rh fun c=>rh fun d=>rh fun e=>rh fun f=>NG (h a b c d e f)
theorem on7{P:List Value→Prop}(h:∀a b c d e f g,P [a,b,c,d,e,f,g]):∀us:List Value,us.length=7→P us:=rh fun a=>rh fun b=>rh fun c=>rh fun d=>rh fun e=>rh fun f=>rh fun g=>NG (h a b c d e f g)
theorem auW(us:List Value)(e:us.length=7):∃a b c d e f g,us=[a,b,c,d,e,f,g]:=on7 (P:=fun us=>∃a b c d e f g,us=[a,b,c,d,e,f,g]) (fun a b c d e f g=>⟨a,b,c,d,e,f,g,rfl⟩) us e
end QF
namespace L2
open PySem PySem.Spec PyProof.Rows PySem.W PySem.Calls
def notStar:Expr→Bool
 | .Starred _ _=>false
 | _=>true
theorem aiv{env}(h:notStar e=true):starEach (e::es) env=(false,eval e env)::starEach es env:=by
 cases e<;>first|rfl|cases h
theorem ak{X}{e}{es}{te}{t}(ha:PE X e te)(hr:PA X es t)(hn:notStar e=true:=by rfl):PA X (e::es) (adK te t):=ahD ha hr (aiv hn)
structure ip(K:Frag)(x qual:Str)(st:Stmt)(f:Addr)(fd:FuncData):Prop where
 ex:∃(oc:Value)(od:Option Addr)(dV kV doc pm:Value)(an:Option Addr)(gK ct:Value)(GN:Array sP),
  fd=fnOf x qual jb (cP st) (au st) dV kV doc pm an gK ct∧K.lookup f=some ⟨oc,od, .func fd,GN⟩∧codeIn K gK qual=true
 kp:keepIn K (.ref f)=true
theorem ud{K}{x qual}{st}{an:Option Addr}{dV kV doc pm gK ct}(l:K.lookup f=some ⟨oc,od, .func (Vo qual dV doc gK),GN⟩)
  (c:codeIn K gK qual=true) (k:keepIn K (.ref f)=true):ip K x qual st f (Vo qual dV doc gK):=⟨⟨oc,od,dV,kV,doc,pm,an,gK,ct,GN,rfl,l,c⟩,k⟩
section
variable{P:Program}{w:World}{K:Frag}{mg:Str→Option Value}{base:Heap}
theorem ip.f'{st:Stmt}{N:List Str}(F:ip K x qual st f fd)(S:aK N ps (au st))(len:∀vs H Q E,sp vs H Q E→vs.length=ps.length)
  (Ah:∀(gK:Value)(A:Around)(outer:List Env)(s:Shared)(H:Hp)(vs:List V)(Q:VK)(E:XK),e_ cm k (Bc (zG f))→sp vs H Q E→
   Tu Sx (fun _=>E)→
   ∃t,EE Sx (cP st) t∧t {nx:=fun _ H'=>Q .de H',rt:=Q} (start N vs) H):aZ P w K mg base (AU P) cm (k+1) f fd ps sp:=by
 obtain⟨oc,od,dV,kV,doc,pm,an,gK,ct,GN,rfl,lk,EF⟩:=F.ex;exact aay lk EF S len fun A outer s H vs Q E hr DC=>vK A s H Q E
end
def ff(P:Program)(w:World)(K:Frag)(mg:Str→Option Value)(base:Heap)(cm:Bool)(k:Nat)(C:Addr)(m:Str)(ps:List Str)(sp:Sp):Prop:=
 ∃f fd,aZ P w K mg base (AU P) cm k f fd ps sp∧Meth K C m f∧Binds K fd ps []∧x9 K C
def oE(P:Program)(w:World)(K:Frag)(mg:Str→Option Value)(base:Heap)(cm:Bool)(k:Nat)(x:Str)(C:Addr)(ps:List Str)(l_:List V)(sp:Sp):Prop:=
 ∃f fd ds,aZ P w K mg base (AU P) cm k f fd ps sp∧Mk K C f∧mg x=some (.ref C)∧Binds K fd ps ds∧Vals l_ ds
theorem Aq{K:Frag}(h1:aZ P w K mg base (AU P) cm k f fd ps sp)(h2:Mk K C f)(h3:mg x=some (.ref C))(h4:Binds K fd ps ds)(h5:Vals l_ ds):oE P w K mg base cm k x C ps l_ sp:=⟨f,fd,ds,h1,h2,h3,h4,h5⟩
theorem aol{K:Frag}(h1:aZ P w K mg base (AU P) cm k f fd ps sp)(h2:Meth K C m f)(h3:Binds K fd ps [])(h4:x9 K C):ff P w K mg base cm k C m ps sp:=⟨f,fd,h1,h2,h3,h4⟩
section
variable{X:Cx}{cm:Bool}{k:Nat}{x m:Str}{ps:List Str}{sp:Sp}{E:St→XK}{e o:Expr}{es:List Expr}{t:TA}{to:TE}{p pos apos:Pos}{C:Addr}{l_:List V}
theorem acP(D:oE X.prog X.w X.K X.mg X.base cm k x C ps l_ sp)(hr:e_ cm (k+1) X.A)(hx:Passes GQ X E)(ha:PA X (e::es) t)(hg:Gl X x:=by rfl)(vZ:(x==("__debug__":Str))=false:=by decide)
  (he:starEach (e::es) X.env=(false,eval e X.env)::starEach es X.env:=by rfl) (rg:(EB pos).any (·.1)=false:=by rfl):PE X (.Call (.Name x p) (e::es) [] pos) (WW t):=by
 obtain⟨f,fd,ds,ok,M,hm,hb,hd⟩:=D;exact alE M ok hr hg hm hb hd hx ha vZ he rg
theorem bX{pl}(ho:PE X o to)(D:ff X.prog X.w X.K X.mg X.base cm k C m ps sp)(hr:e_ cm k X.A)(hx:Passes GQ X E)(ha:PA X (e::es) t)
  (uo:starEach (e::es) X.env=(false,eval e X.env)::starEach es X.env:=by rfl) (rg:(EB pos).any (·.1)=false:=by rfl)
  (ht:eval (.Call (.Attribute o m apos) (e::es) [] pos) X.env=(do
   let ov←eval o X.env
   standAt apos.atName
   let (f,first)←OF [ov]
   callWith pos f first (WI pos) (HL pos)):=by rfl):PE X (.Call (.Attribute o m apos) (e::es) [] pos) (Dz C m sp [] E to t):=by
 obtain⟨f,fd,ok,hm,hb,c⟩:=D;exact awx ho c hm ok hr hb .nil hx ha uo rg ht
theorem awZ{pl}(ho:PE X o to)(D:ff X.prog X.w X.K X.mg X.base cm k C m ps sp)(hr:e_ cm k X.A)(hx:Passes GQ X E)
  (ht:eval (.Call (.Attribute o m apos) [] [] pos) X.env=(do
   let ov←eval o X.env
   standAt apos.atName
   let (f,first)←OF [ov]
   callWith pos f first (zd pos) (HL pos)):=by rfl):PE X (.Call (.Attribute o m apos) [] [] pos) (Dz C m sp [] E to GI):=by
 obtain⟨f,fd,ok,hm,hb,c⟩:=D;exact asq ho c hm ok hr hb .nil hx ht
end
section
variable{X:Cx}
theorem a7 (K) {tg l} {tl} (hl:PE X l tl) (h:X.K=K:=by rfl):PI X tg l (aaY K tl):=h▸amz hl
theorem aD (K) {e} {f} {pos} {ta} (he:PE X e ta) (hb:attributeBase e f X.env (eval e X.env)=eval e X.env:=by rfl) (h:X.K=K:=by rfl):PE X (.Attribute e f pos) (QN K ta f):=h▸atW he hb
theorem cB (K) {o value} {f} {pos pos'} {ta tv} (ha:PE X o ta) (hv:PE X value tv) (hs:swapsWith value (some (.Attribute o f pos')) pos.line X.env=pure false:=by rfl) (h:X.K=K:=by rfl):PS X (.Assign [.Attribute o f pos'] value pos) (QO K ta tv f):=h▸aep ha hv hs
theorem aj (K) (h:X.K=K:=by rfl):Pk X (Nl K):=h▸ahs
theorem bV (K) (h:X.K=K:=by rfl):Pk X (Nm K):=h▸asU
theorem amU(K:Frag)(h:X.K=K:=by rfl):Tq X (Nq K):=h▸ate
inductive LV(K:Frag)(xs:List V)(H:Hp)(Q:VK):Prop
 |mk (p) (ys) (_:xs=[.ref p]) (_:(gF K H p ys∨Gy K H p ys)) (_:Q (.int ys.length) H):LV K xs H Q
theorem arc (K) (h:X.K=K:=by rfl):jF X (.builtin "len") (LV K):=by
 subst h;intro pins s σ H xs us Q I r hq;obtain⟨p,ys,e,d,q⟩:=hq;exact alX pins s σ H xs us Q I r ⟨p,ys,e,d,q⟩
inductive aaw(K:Frag)(xs:List V)(H:Hp)(Q:VK):Prop
 |mk (p) (ys) (_:xs=[.ref p]) (_:(gF K H p ys∨Gy K H p ys)) (_:∀l,H l=none→Q (.ref l) (N3 l)):aaw K xs H Q
theorem bo (K) (h:X.K=K:=by rfl):jF X (.type "list") (aaw K):=by
 subst h;intro pins s σ H xs us Q I r hq;obtain⟨p,ys,e,d,q⟩:=hq;exact arI pins s σ H xs us Q I r ⟨p,ys,e,d,q⟩
theorem aew (K) (hc:X.calm=true) (h:X.K=K:=by rfl):jF X (.builtin "all") (abx K fun bs=>bs.all id):=h▸aiX hc
theorem ahO (K) (h:X.K=K:=by rfl):jF X (.builtin "isinstance") (ND K):=h▸alh
theorem dH (K) {es} {k} {t} {n} {pos} (hc:X.calm=true) (h:QC X es t)
  (hn:(II es).length=n:=by rfl) (uo:(II es).findIdx? (·.1)=none:=by rfl) (hK:X.K=K:=by rfl):PG X (.Tuple es k pos) (M0 K n t):=hK▸ahl hc h hn uo
theorem fg (K) {T} {name} {id} {r} {o e} {es} {apos fe} {to} {t} (pa:PlainAttrs T) (slot:Slot T name id) (FY:typeOf (.builtin id)=pure (.type "method_descriptor")) (hm:Tr X id r) (ho:PE X o to) (ha:PA X (e::es) t)
  (p9:attributeBase o name X.env (eval o X.env)=eval o X.env:=by rfl)
  (GZ:((WI fe).all (fun x=>!x.1)&&(HL fe).all tF
   &&decide ((e::es).length+([]:List Keyword).length+(if ([]:List Keyword).isEmpty then 0 else 1)<30))=true:=by rfl)
  (p_:(apos.endLine==fe.line)=true:=by rfl) (hs:starEach (e::es) X.env=(false,eval e X.env)::starEach es X.env:=by rfl) (B0:(EB fe).any (·.1)=false:=by rfl) (hK:X.K=K:=by rfl):
  PE X (.Call (.Attribute o name apos) (e::es) [] fe) (adX K T r to t):=hK▸avk pa slot FY hm ho ha p9 GZ p_ hs B0
end
section
variable{X:Cx}
end
end L2
namespace QF
open PySem L2
structure TB(mg:Str→Option Value):Prop where
 aaR:mg "len"=none
 gP:mg "range"=none
 adx:mg "isinstance"=none
 acv:mg "int"=none
 agR:mg "bool"=none
 axE:mg "str"=none
 fC:mg "list"=none
 ako:mg "tuple"=none
 axp:mg "dict"=none
 awL:mg "all"=none
 ayA:mg "any"=none
 alI:mg "min"=none
 LW:mg "max"=none
 gH:mg "enumerate"=none
 axT:mg "ValueError"=none
def GH(mg:Str→Option Value)(x:Str)(v:V):Prop:=∃u,mg x=some u∧RelV v u
def cell(ns:List Int)(k:Int):Int:=ns.getD k.toNat 0
theorem ata{ns:List Int}(h0:0≤k)(h:k<(ns.length:Int)):uc j7 k=some (.int (cell ns k)):=by
 obtain⟨j,rfl⟩:=Ku h0;have hj:j<ns.length:=by lia
 refine ar ?_;simp[cell,hj]
theorem cell_out{ns}(h0:0≤k)(h:¬k<(ns.length:Int)):cell ns k=0:=by
 have hj:ns.length≤k.toNat:=by lia
 simp[cell,hj]
def low(c:Nat):Bool:=decide (97≤c)&&decide (c≤122)
def uC(z:Str):Bool:=decide (1≤z.length)&&decide (z.length≤12)&&z.cps.toList.all low
theorem X0(a b:_):(([a]:List Nat)<[b])↔a<b:=by
 constructor
 ·intro h;cases h with
  |rel h=>exact h
  |cons h=>cases h
 ·intro h;exact .rel h
theorem ahV (c):(!decide (([c]:List Nat)<(D7 "a").cps.toList))=decide (97≤c):=by
 have e:(D7 "a").cps.toList=[97]:=by decide+kernel
 rw[e,Bool.eq_iff_iff];simp only[Bool.not_eq_true',decide_eq_false_iff_not,decide_eq_true_eq,X0]
 lia
theorem akP (c):(!decide ((D7 "z").cps.toList<([c]:List Nat)))=decide (c≤122):=by
 have e:(D7 "z").cps.toList=[122]:=by decide+kernel
 rw[e,Bool.eq_iff_iff];simp only[Bool.not_eq_true',decide_eq_false_iff_not,decide_eq_true_eq,X0]
 lia
theorem len_app(x y:Str):(x++y).length=x.length+y.length:=by
 show(x.cps++y.cps).size=_;rw[Array.size_append];rfl
inductive Hk(K:W.Frag)(vs:List V)(H:Hp)(Q:VK)(u3:XK):Prop
 |mk (a) (ns) (k) (_:vs=[.ref a, .int k]) (_:gF K H a (EG V.int)) (_:0≤k) (_:Q (.int (cell ns k)) H):Hk K vs H Q u3
inductive uD(vs:List V)(H:Hp)(Q:VK)(u3:XK):Prop
 |mk (i) (_:vs=[.int i]) (_:Q (.bl true) H):uD vs H Q u3
inductive B9(vs:List V)(H:Hp)(Q:VK)(u3:XK):Prop
 |mk (c) (_:vs=[.str ⟨#[c]⟩]) (_:Q (.bl (low c)) H):B9 vs H Q u3
inductive ym(vs:List V)(H:Hp)(Q:VK)(u3:XK):Prop
 |mk (z) (_:vs=[.str z]) (_:z.length≤100000) (_:∀H',av H H'→Q (.bl (uC z)) H'):ym vs H Q u3
inductive oU(vs:List V)(H:Hp)(Q:VK)(u3:XK):Prop
 |mk (l n h:_) (_:vs=[.int l, .int n, .int h]) (_:Q (.bl (decide (l≤n)&&decide (n≤h))) H):oU vs H Q u3
def DL(K:W.Frag):Sp:=fun vs H Q _=>∃(a:Addr)(ns:List Int),vs=[.ref a]∧gF K H a (EG V.int)∧ns.length≤63∧∀H',Q (.bl true) H'
structure Er(K:W.Frag)(mg:Str→Option Value)(x:Str)(C:Addr):Prop where
 m:mg x=some (.ref C)
 e:Q8 K C
def inR(l n h:Int):Bool:=decide (l≤n)&&decide (n≤h)
inductive rE(C:Addr)(vs:List V)(H:Hp)(Q:VK)(E:XK):Prop
 |mk (nm) (n l h:_) (_:vs=[.str nm, .int n, .int l, .int h]) (_:nm.length≤20) (_:(0≤l∧l≤1)) (_:(h=100∨h=999999)) (_:(if inR l n h=true then Q .de H else E (.ref C) none H)):rE C vs H Q E
theorem adb{i:Int}(h:i=0∨i=1∨i=12∨i=40∨i=60∨i=100∨i=999999):i.natAbs.log2<1920∧(D7 (Sl i)).length≤6:=by
 rcases h with rfl|rfl|rfl|rfl|rfl|rfl|rfl<;>exact⟨by decide+kernel,by decide+kernel⟩
theorem nG:(Str.empty).length=0:=by decide+kernel
theorem iR{x:V}:[x].length≤sizeLine:=aE A9
def i5(x y:Str)(p:Int):Bool:=uC x&&uC y&&!(x==y)&&inR 0 p 999999
inductive yn(C:Addr)(vs:List V)(H:Hp)(Q:VK)(E:XK):Prop
 |mk (x y:_) (p) (_:vs=[.str x, .str y, .int p]) (_:x.length≤100000) (_:y.length≤100000) (_:(if i5 x y p=true then ∀H',av H H'→Q .de H' else ∀H',av H H'→E (.ref C) none H')):yn C vs H Q E
abbrev Form:=Str×Str×Int
def NI(f:Form):List V:=[.str f.1, .str f.2.1, .int f.2.2]
def my(f:Form):List Key:=[.inr f.1, .inr f.2.1]
def mL(f:Form):List Key×V:=(my f, .int f.2.2)
def F2(f:Form):Bool:=i5 f.1 f.2.1 f.2.2
def eF(H:Hp)(xs:List V)(fs:List Form):Prop:=xs.length=fs.length∧∀(i:Nat)(f:Form),fs[i]?=some f→∃t,xs[i]?=some (C_ t)∧H t=some (.tup (NI f))
def bY(fs:List Form):Bool:=decide (fs.length≤60)&&fs.all F2&&decide ((Ii my).Nodup)
def Short(fs:List Form):Prop:=fs.length≤1000∧∀f∈fs,f.1.length≤100000∧f.2.1.length≤100000
theorem eF.same{fs}(t:eF H xs fs)(s:av H H'):eF H' xs fs:=⟨t.1,fun i f e=>let ⟨b,h1,h2⟩:=t.2 i f e;⟨b,h1,De h2⟩⟩
theorem eF.nil:eF H [] []:=⟨rfl,fun i f e=>by simp at e⟩
inductive rF(C:Addr)(vs:List V)(H:Hp)(Q:VK)(E:XK):Prop
 |mk (a) (xs) (fs) (_:vs=[.ref a]) (_:H a=some (.lst xs)) (_:eF H xs fs) (_:Short fs) (_:(if bY fs=true then ∀H' d,av H H'→H d=none→H' d=some (.dT MJ)→Q (.ref d) H' else ∀H',av H H'→E (.ref C) none H')):rF C vs H Q E
theorem aaU(fs:List Form):(Ii mL).map (·.1)=fs.map my:=by rw[List.map_map];rfl
theorem alL{fs:List Form}{i:Nat}(e:fs[i]?=some f)(h:F2 f=false):bY fs=false:=by
 have hm:f∈fs:=B7 e;have:fs.all F2=false:=by
  rw[Bool.eq_false_iff];intro z;rw[List.all_eq_true]at z;rw[z f hm]at h;cases h
 simp[bY,this]
theorem aeq{fs}(e:fs[i]?=some f)(h:my f∈(Hx i).map my):bY fs=false:=by
 have:¬(Ii my).Nodup:=fun z=>by
  obtain⟨hi,e'⟩:=AM e;have e2:fs=fs.take i++f::fs.drop (i+1):=by
   rw[←e',List.getElem_cons_drop,List.take_append_drop]
  rw[e2,List.map_append,List.map_cons,List.nodup_append]at z;exact z.2.2 _ h _ (List.mem_cons_self) rfl
 simp[bY,this]
theorem asb{fs:List Form}(e:fs[i]?=some f):(Hx (i+1)).map mL=(Hx i).map mL++[mL f]:=by
 rw[List.take_succ,e,List.map_append];rfl
theorem afb{fs:List Form}(h:bH MJ k=none):k∉fs.map my:=by
 have:=Ap h;rwa[aaU]at this
theorem aiY{fs:List Form}(h:bH MJ k=some v):k∈fs.map my:=by
 have:=DG h;rwa[aaU]at this
structure Hm(K:W.Frag)(C:Addr):Prop where
 cl:x9 K C
 same:cq K C "same"
 out:cq K C "out"
 into:cq K C "into"
 least:cq K C "least"
 part:cq K C "part"
 near:cq K C "near"
 Hn:cq K C "prices"
structure Nums where
 same:Int
 out:Int
 into:Int
 least:Int
 part:Int
def jJ(n:Nums):Bool:=inR 1 n.same 999999&&inR 0 n.out 999999&&inR 0 n.into 999999&&inR 1 n.least 999999&&inR 1 n.part 100
def yo(n:Nums)(l d:Addr):List (Str×V):=[("same", .int n.same),("out", .int n.out),("into", .int n.into),("least", .int n.least),("part", .int n.part),("near", .ref l),("prices", .ref d)]
def oF(n:Nums):List (Str×V):=[("same", .int n.same),("out", .int n.out),("into", .int n.into),("least", .int n.least),("part", .int n.part)]
def SameBut(x:Addr)(H H':Hp):Prop:=∀b u,b≠x→H b=some u→H' b=some u
structure lF(H:Hp)(C x:Addr)(n:Nums)(fs:List Form)(dx l d:Addr)(xs:List V):Prop where
 ob:H x=some (.ins C dx (KR d))
 own:H dx=some (.own x)
 li:H l=some (.lst xs)
 tr:eF H xs fs
 di:H d=some (.dT MJ)
def aeO(H:Hp)(v:V)(xs:List V)(fs:List Form):Prop:=(v= .de∧xs=[]∧fs=[])∨∃a,v= .ref a∧H a=some (.lst xs)∧eF H xs fs
inductive ue(C CT CN:Addr)(vs:List V)(H:Hp)(Q:VK)(E:XK):Prop
 |mk (x dx:_) (n) (nv) (xs) (fs) (_:vs=[.ref x, .int n.same, .int n.out, .int n.into, .int n.least, .int n.part,nv]) (_:H x=some (.ins C dx [])) (_:H dx=some (.own x)) (_:aeO H nv xs fs) (_:Short fs) (_:(if jJ n=true then(if bY fs=true then ∀H' l d,SameBut x H H'→lF H' C x n fs dx l d xs→H l=none→H d=none→Q .de H' else ∀H',SameBut x H H'→E (.ref CN) none H')else ∀H',SameBut x H H'→E (.ref CT) none H')):ue C CT CN vs H Q E
theorem ano (n):bE "part" (.int n.part) (bE "least" (.int n.least) (bE "into" (.int n.into) (bE "out" (.int n.out) (bE "same" (.int n.same) []))))=oF n:=by kernel_rfl
theorem ajK (n) (l d:_):bE "prices" (.ref d) (t8 QS)=yo n l d:=by kernel_rfl
theorem ars (n) (l):(t8 QS).lookup ("near":Str)=some (C_ l):=by kernel_rfl
theorem SameBut.refl:SameBut x H H:=fun _ _ _ h=>h
theorem SameBut.upd(s:SameBut x H H'):SameBut x H (NA x o):=fun b u n h=>by rw[aq n];exact s b u n h
theorem SameBut.same(s:SameBut x H H')(t:av H' H2):SameBut x H H2:=fun b u n h=>t b u (s b u n h)
theorem SameBut.laid{a:Addr}(s:SameBut x H H')(h:H a=none):SameBut x H (L2.upd H' a o):=fun b u n e=>by rw[aq (Fh h)];exact s b u n e
theorem SameBut.free(s:SameBut x H H')(hx:H' x=some o)(h:H' l=none):H l=none:=by
 cases e:H l with
 |none=>rfl
 |some u=>
  have n:l≠x:=fun z=>by rw[z,hx]at h;cases h
  rw[s l u n e]at h;cases h
theorem eF.but{fs}(t:eF H xs fs)(s:SameBut x H H')(hx:H x=some (.ins C dx gs)):eF H' xs fs:=
 ⟨t.1,fun i f e=>let ⟨b,h1,h2⟩:=t.2 i f e;⟨b,h1,s _ _ (fun z=>by rw[z,hx]at h2;cases h2) h2⟩⟩
def fl(j:Nat):List V:=[.bl (decide (0=j)), .bl (decide (1=j)), .bl (decide (2=j)), .bl (decide (3=j)), .bl (decide (4=j)), .bl (decide (5=j)), .bl (decide (6=j)), .bl (decide (7=j)), .bl (decide (8=j)), .bl (decide (9=j)), .bl (decide (10=j)), .bl (decide (11=j)), .bl (decide (12=j)), .bl (decide (13=j))]
def kinds:List Str:=["word","book","terms","near","way","name","year","taken","full","many","no book","no finding","left","search","another"]
def kindOf(j:Nat):Str:=kinds.getD j ""
theorem int_at(is:List Int)(h0:0≤i)(h:i<(is.length:Int)):∃m,m∈is∧uc pR i=some (.int m):=by
 obtain⟨j,rfl⟩:=Ku h0;have hj:j<is.length:=by lia
 exact⟨is[j],EZ hj,ar (by simp[hj])⟩
theorem acz (n) (l d:_):(KR d).lookup ("same":Str)=some (Io n.same):=by kernel_rfl
theorem l_out (n) (l d:_):(KR d).lookup ("out":Str)=some (Io n.out):=by kernel_rfl
theorem apI (n) (l d:_):(KR d).lookup ("into":Str)=some (Io n.into):=by kernel_rfl
theorem aeX (n) (l d:_):(KR d).lookup ("least":Str)=some (Io n.least):=by kernel_rfl
theorem awi (n) (l d:_):(KR d).lookup ("prices":Str)=some (C_ d):=by kernel_rfl
theorem ado (n) (l d:_):(KR d).lookup ("pair_worth":Str)=none:=by kernel_rfl
end QF
namespace L2
open PySem PySem.Spec PyProof.Rows PySem.W PySem.Calls
section
variable{X:Cx}
inductive aav(K:Frag)(x:V)(y:V)(H:Hp)(Q:VK):Prop
 |mk (p) (q) (xs) (_:x= .ref p) (_:y= .ref q) (_:gF K H p xs) (_:gF K H q []) (_:Q (.bl (!xs.isEmpty)) H):aav K x y H Q
theorem aaV (K) (hu:X.A.units<cLine) (hK:X.K=K:=by rfl):rm X (compareOp .NotEq) (aav K):=by
 subst hK;intro pins s σ H x y v u Q I rx ry h;obtain⟨p,q,xs,rfl,rfl,hp,hq,k⟩:=h;cases rx;cases ry;obtain⟨its,r,pl,hz⟩:=DP hp;obtain⟨dZ,r2,Ke,Po⟩:=DP hq;cases r2;obtain⟨⟨cls,dd,data,sl⟩,ho,hc,n,hd⟩:=id pl.isList;obtain⟨⟨NL,F6,data2,yg⟩,xI,vU,n2,hd2⟩:=id Ke.isList;simp only at hc hd vU hd2;subst hc hd vU hd2;by_cases e:its=[]
 ·subst e;cases r;refine richCompare_meets_room (op:= .NotEq) ⟨_,ho,rfl⟩ ⟨_,xI,rfl⟩ F.slot_list_ne F.entry_list_ne VY (SeqAt.list_neAt p q #[] #[] n n2 dd F6 sl yg rfl (fun _=>true)) ⟨ho,xI,fun j h1 _=>Fm h1,?_⟩ hu;exact⟨(fun x=>nomatch x), .bl false,H,I,rfl,k⟩
 ·have hx:xs≠[]:=fun z=>by subst z;cases r;exact e rfl
  have hsz:(its.toArray.size !=(#[]:Array Value).size)=true:=by simpa using e
  refine richCompare_meets_room (op:= .NotEq) ⟨_,ho,rfl⟩ ⟨_,xI,rfl⟩ F.slot_list_ne F.entry_list_ne VY (SeqAt.list_ne_lengthsAt p q its.toArray #[] n n2 dd F6 sl yg hsz) ⟨ho,xI,?_⟩ hu;have:(!xs.isEmpty)=true:=by simpa using hx
  rw[this]at k;exact⟨(fun x=>nomatch x), .bl true,H,I,rfl,k⟩
end
end L2
namespace QF
open PySem L2
theorem acL{α:Type}{xs:List α}{i:Nat}{v:α}(h:xs[i]?=some v):uc xs (0+(i:Int))=some v:=by
 rw[Int.zero_add];exact ar h
def eP(fs:List Form)(x y:Str):Option Int:=(fs.find? fun f=>decide (f.1=x∧f.2.1=y)).map (·.2.2)
def dS(same:Int)(fs:List Form)(x y:Str):Option Int:=if x=y then some same else(eP fs x y).map (same-·)
def bu:Option Int→V
 |none=> .de
 |some i=> .int i
theorem yr (f) (x y:_):my f=[.inr x, .inr y]↔f.1=x∧f.2.1=y:=by simp[my]
theorem xJ(x y:_):∀fs:List Form,bH MJ [.inr x, .inr y]=(eP fs x y).map V.int
 |[]=>rfl
 |f::r=>by
  rw[List.map_cons];by_cases h:my f=[.inr x, .inr y]
  ·have h':=(yr f x y).mp h;rw[cV (show(mL f).1=_ from h)];simp[eP,List.find?_cons,h'.1,h'.2,mL]
  ·have h':¬(f.1=x∧f.2.1=y):=fun z=>h ((yr f x y).mpr z)
   rw[cJ (show ¬(mL f).1=_ from h),xJ x y r];simp[eP,List.find?_cons,h']
inductive yt(C:Addr)(vs:List V)(H:Hp)(Q:VK)(u3:XK):Prop
 |mk (t) (x y:_) (n) (fs) (dx l d:_) (xs) (_:vs=[.ref t, .str x, .str y]) (_:lF H C t n fs dx l d xs) (_:∀H',av H H'→Q (bu (Kj n.same fs)) H'):yt C vs H Q u3
abbrev Ru:Str:=D7 "abcdefghijklmnopqrstuvwxyz"
theorem asi:Ru.length=26:=by decide+kernel
theorem B_(zs:List Str)(h0:0≤i)(h:i<(zs.length:Int)):∃m,m∈zs∧uc GA i=some (.str m):=by
 obtain⟨j,rfl⟩:=Ku h0;have hj:j<zs.length:=by lia
 exact⟨zs[j],EZ hj,ar (by simp[hj])⟩
theorem qi(x y:Str):(x++y).cps.toList=x.cps.toList++y.cps.toList:=by
 show(x.cps++y.cps).toList=_;simp
def eC(H H':Hp):Prop:=∀t v,H t=some (.tup v)→H' t=some (.tup v)
theorem eC.same(s:av H H'):eC H H':=fun t v h=>De h
theorem eC.lst{H}{l}{xs}{o}(h:H l=some (.lst xs)):eC H (Ea l o):=fun t v e=>by
 rw[aq (jC e h (by intro z;cases z))];exact e
theorem eF.cT{fs}(T:eF H xs fs)(k:eC H H'):eF H' xs fs:=⟨T.1,fun i f e=>let ⟨b,h1,h2⟩:=T.2 i f e;⟨b,h1,k _ _ h2⟩⟩
theorem eF.snoc{fs}{t}(T:eF H xs fs)(ht:H t=some (.tup (NI f))):eF H (xs++[.ref t]) (fs++[f]):=by
 refine⟨by simp[T.1],fun i g e=>?_⟩;by_cases h:i<fs.length
 ·rw[Bi h]at e;obtain⟨b,h1,h2⟩:=T.2 i g e;exact⟨b,by rw[Bi (by rw[T.1];exact h)];exact h1,h2⟩
 ·have hi:i=fs.length:=by
   have:=(AM e).1;simp at this
   lia
  subst hi;have hg:f=g:=by simpa using e
  subst hg;exact⟨t,by rw[←T.1];simp,ht⟩
theorem anZ(h:j<n):GW n (j:Int)=some j:=by
 unfold GW;rw[A7 A3,A7 A3];simp
theorem agh:Ru.cps.toList=(B5 26).map (97+·):=by decide+kernel
theorem Hr:uc Ru.cps.toList (r%26)=some (97+(r%26).toNat):=by
 have h0:0≤r%26:=by lia
 have h1:r%26<26:=by lia
 generalize r%26=m at h0 h1;obtain⟨j,rfl⟩:=Ku h0;refine ar ?_;have hj:j<26:=by lia
 rw[agh];simp[hj]
theorem DN(r:Int):low (97+(r%26).toNat)=true:=by
 have h1:(r%26).toNat≤25:=by lia
 simp[low]
 lia
def lows(z:Str):Prop:=z.cps.toList.all low=true
def kR(cb:Str)(cell other:Int)(k:Nat):Str:=
 let size:=1+cell/2%12
 if cell%2=1 then Txt.slice cb none (some (1+(size+k)%12))
 else Txt.slice cb none (some (other%size))++⟨#[97+((other/12+k)%26).toNat]⟩++Txt.slice cb (some (other%size+1)) (some size)
theorem yu{n d:Nat}{v:Int}(h0:0≤v)(h:v≤n):HT.lD n d (some v)=v.toNat:=by
 simp only[HT.lD];split<;>lia
theorem mM{z}(h0:0≤v)(h:v≤z.length):(Y7 z (some v)).cps.toList=z.cps.toList.take v.toNat:=by
 rw[xF,yu h0 h,HT.afj];simp
theorem aqM{z}(h0:0≤u)(h1:u≤v)(h:v≤z.length):(K4 z (some u) (some v)).cps.toList=(ω u.toNat).take (v.toNat-u.toNat):=by
 rw[xF,yu h0 A3,yu A3 h]
theorem len_list(z:Str):z.cps.toList.length=z.length:=by simp[Str.length]
theorem aaj{z}(h1:1≤z.length)(h2:z.length≤12)(h:lows z):uC z=true:=by
 have h:z.cps.toList.all low=true:=h;simp[uC,h1,h2,h]
theorem awm{cb}(hl:cb.length=12)(hs:lows cb)(cell other:_) (k):uC (Η k)=true:=by
 have oG:=List.all_eq_true.mp hs;have Pp:=len_list cb;have z0:1≤1+cell/2%12∧1+cell/2%12≤12:=by lia
 unfold kR;simp only;generalize 1+cell/2%12=size at z0;split
 ·have z1:1≤1+(size+(k:Int))%12∧1+(size+(k:Int))%12≤12:=by lia
  generalize 1+(size+(k:Int))%12=m at z1;have e:=nq (v:=m);have el:(Y7 cb (some m)).length=m.toNat:=by rw[←len_list,e,List.length_take,Pp];lia
  refine aaj A3 (by lia) ?_;unfold lows;rw[e,List.all_eq_true];exact fun c hc=>tZ c
 ·have z1:0≤other%size∧other%size<size:=⟨Hg A3,GY A3⟩
  generalize other%size=j4 at z1;have e1:=nq (v:=j4);have e2:=aqM (z:=cb) (u:=j4+1) (v:=size) (by lia) (by lia) (by lia);have l1:(Y7 cb (some j4)).length=j4.toNat:=by rw[←len_list,e1,List.length_take,Pp];lia
  have l2:(K4 cb (some (j4+1)) (some size)).length=size.toNat-(j4+1).toNat:=by rw[←len_list,e2,List.length_take,List.length_drop,Pp];lia
  have el:(Txt.slice cb none (some j4)++(⟨#[97+((other/12+(k:Int))%26).toNat]⟩:Str)++Txt.slice cb (some (j4+1)) (some size)).length=size.toNat:=by
   rw[len_app,len_app,l1,l2];show j4.toNat+1+_=_
   lia
  refine aaj A3 (by lia) ?_;unfold lows;rw[qi,qi,e1,e2,List.all_append,List.all_append];have a1:(mE j4.toNat).all low=true:=List.all_eq_true.mpr fun c hc=>tZ c
  have a2:((cb.cps.toList.drop (j4+1).toNat).take (size.toNat-(j4+1).toNat)).all low=true:=List.all_eq_true.mpr fun c hc=>oG c (Ob (HP hc))
  have a3:=DN (other/12+(k:Int));rw[a1,a2];simp[a3]
theorem amx{B:List Nat}:(A++[c]++B)[A.length]?=some c:=AA
theorem amK{cb}(hl:cb.length=12)(cell other:_)(hk:k<12)(Hw:k'<12)(e:kR cb cell other k=kR cb cell other k'):k=k':=by
 have Pp:=len_list cb;have z0:1≤1+cell/2%12∧1+cell/2%12≤12:=by lia
 unfold kR at e;simp only at e;generalize 1+cell/2%12=size at z0 e;split at e
 ·have e:=congrArg (fun z:Str=>z.cps.toList.length) e;rw[aqw A3,aqw A3,List.length_take,List.length_take,Pp,hl]at e
  lia
 ·have z1:0≤other%size∧other%size<size:=⟨Hg A3,GY A3⟩
  generalize other%size=j4 at z1 e;have e1:=nq (v:=j4);have l1:(mE j4.toNat).length=j4.toNat:=by rw[List.length_take,Pp];lia
  have at_:∀c:Nat,(Txt.slice cb none (some j4)++(⟨#[c]⟩:Str)++Txt.slice cb (some (j4+1)) (some size)).cps.toList[j4.toNat]?=some c:=fun c=>by
   rw[qi,qi,e1];have:=amx (A:=mE j4.toNat) (B:=(K4 cb (some (j4+1)) (some size)).cps.toList) (c:=c);rw[l1]at this;exact this
  have e:=Eu (fun z:Str=>z.cps.toList[j4.toNat]?) e;have e2:=(at_ _).symm.trans (Xz (at_ _));have e3:=Aw e2
  lia
theorem asH{cb}(hl:cb.length=12)(cell other:_)(hn:n≤12):((B5 n).map Wt).Nodup:=by
 refine List.pairwise_map.mpr ?_;refine List.Pairwise.imp_of_mem (R:=fun a b=>a≠b) (fun{a b} ha hb h e=>h ?_) List.nodup_range;exact amK hl cell other (by have:=List.mem_range.mp ha;lia) (by have:=List.mem_range.mp hb;lia) e
inductive yv(vs:List V)(H:Hp)(Q:VK)(u3:XK):Prop
 |mk (cell other many:_) (_:vs=[.int cell, .int other, .int many]) (_:0≤many) (_:many≤12) (_:∀H' b (zs:List Str),av H H'→H b=none→H' b=some (.lst GA)→zs.length=many.toNat→(∀z∈zs,uC z=true)→zs.Nodup→Q (.ref b) H'):yv vs H Q u3
structure dI(zs:List Str)(i j:Nat)(fs:List Form):Prop where
 ok:∀f∈fs,F2 f=true
 nd:(Ii my).Nodup
 old:∀f∈fs,∃i' j',(i'<i∨(i'=i∧j'<j))∧zs[i']?=some f.1∧zs[j']?=some f.2.1
 Bz:fs.length+(if i<j then 1 else 0)≤i*(zs.length-1)+j
theorem dI.nil:dI zs 0 0 []:=⟨AA,AA,AA,AA⟩
theorem dI.skip{fs}(p:dI zs i j fs):dI zs i (j+1) fs:=by
 refine⟨p.ok,p.nd,fun f hf=>?_,?_⟩
 ·obtain⟨i',j',h,r⟩:=p.old f hf;exact⟨i',j',by lia,r⟩
 ·have:=p.Bz;split<;>split at this<;>lia
theorem As{zs:List Str}(hn:zs.Nodup){i j:Nat}{x:Str}(h1:zs[i]?=some x)(h2:zs[j]?=some x):i=j:=by
 obtain⟨a1,b1⟩:=AM h1;obtain⟨a2,b2⟩:=AM h2;exact(YZ hn).mp (b1.trans b2.symm)
theorem dI.add{zs}{fs}(p:dI zs i j fs)(hn:zs.Nodup)(hw:∀z∈zs,uC z=true)(hx:zs[i]?=some x)(hy:zs[j]?=some y)(ed:¬x=y){pr}(h0:0≤pr)(h1:pr≤999999):
  dI zs i (j+1) (fs++[(x,y,pr)]):=by
 have vV:i≠j:=fun e=>ed (by subst e;rw[hx]at hy;exact Aw hy)
 refine⟨fun f hf=>?_,?_,fun f hf=>?_,?_⟩
 ·rcases List.mem_append.mp hf with h|h
  ·exact p.ok f h
  ·have h:f=(x,y,pr):=by simpa using h
   rw[h];have a1:=hw x (B7 hx);have a2:=hw y (B7 hy);simp[F2,i5,a1,a2,ed,inR,h0,h1]
 ·rw[List.map_append];refine List.nodup_append.mpr ⟨p.nd,AA,fun a ha b hb e=>?_⟩;have hb:b=my (x,y,pr):=by simpa using hb
  rw[e,hb]at ha;obtain⟨f,hf,ef⟩:=E4 ha;obtain⟨e1,e2⟩:=(yr f x y).mp ef;obtain⟨i',j',h,r1,r2⟩:=p.old f hf;rw[e1]at r1;rw[e2]at r2;have:=As hn r1 hx;have:=As hn r2 hy
  lia
 ·rcases List.mem_append.mp hf with h|h
  ·obtain⟨i',j',h,r⟩:=p.old f h;exact⟨i',j',by lia,r⟩
  ·have h:f=(x,y,pr):=by simpa using h
   rw[h];exact⟨i,j,by lia,hx,hy⟩
 ·have:=p.Bz;rw[List.length_append];show fs.length+1+_≤_;split<;>split at this<;>lia
theorem dI.row{fs}(p:dI zs i zs.length fs)(hi:i<zs.length):dI zs (i+1) 0 fs:=by
 refine⟨p.ok,p.nd,fun f hf=>?_,?_⟩
 ·obtain⟨i',j',h,r⟩:=p.old f hf;exact⟨i',j',by lia,r⟩
 ·have h:=p.Bz;rw[A7 hi]at h;rw[A6 A3,Nat.succ_mul]
  lia
theorem dI.good{fs}(p:dI zs zs.length 0 fs)(h:zs.length≤8):bY fs=true:=by
 have h1:=p.Bz;have h2:zs.length*(zs.length-1)≤8*7:=KO h A3;rw[A6 A3]at h1;have h3:fs.length≤60:=by lia
 have h4:fs.all F2=true:=List.all_eq_true.mpr p.ok;simp[bY,h3,h4,p.nd]
theorem aso{fs}(h:bY fs=true):Short fs:=by
 simp only[bY,Bool.and_eq_true,decide_eq_true_eq,List.all_eq_true]at h;refine⟨by lia,fun f hf=>?_⟩;have h1:=h.1.2 f hf;simp only[F2,i5,uC,Bool.and_eq_true,decide_eq_true_eq]at h1
 lia
inductive yx(vs:List V)(H:Hp)(Q:VK)(u3:XK):Prop
 |mk (cell same:_) (b) (zs:List Str) (_:vs=[.int cell, .ref b, .int same]) (_:H b=some (.lst GA)) (_:zs.length≤8) (_:(∀z∈zs,uC z=true)) (_:zs.Nodup) (_:1≤same) (_:same≤999999) (_:∀H' l xs fs,av H H'→H l=none→H' l=some (.lst xs)→eF H' xs fs→bY fs=true→Q (.ref l) H'):yx vs H Q u3
inductive uF(vs:List V)(H:Hp)(Q:VK)(u3:XK):Prop
 |mk (x y:_) (same) (l) (xs) (fs) (_:vs=[.str x, .str y, .int same, .ref l]) (_:H l=some (.lst xs)) (_:eF H xs fs) (_:Q (bu (Kj same fs)) H):uF vs H Q u3
theorem nH{zs:List Str}{i:Nat}(h:(FQ V.str)[i]?=some v):∃x,zs[i]?=some x∧v= .str x:=by
 rw[List.getElem?_map]at h;cases e:zs[i]? with
 |none=>rw[e]at h;cases h
 |some x=>rw[e]at h;exact⟨x,rfl,(Aw h).symm⟩
theorem alf{fs}(h:∀f∈fs,¬(f.1=x∧f.2.1=y)):eP fs x y=none:=by
 have:fs.find? (fun f=>decide (f.1=x∧f.2.1=y))=none:=by
  rw[List.find?_eq_none];intro f hf;simpa using h f hf
 unfold eP;rw[this];rfl
theorem tq:∀{fs:List Form}{i:Nat}{x y x0 y0:Str}{p:Int},fs[i]?=some (x0,y0,p)→(∀f∈fs.take i,¬(f.1=x∧f.2.1=y))→(x0=x∧y0=y)→eP fs x y=some p
 |f::r,0,x,y,x0,y0,p,h,_,e=>by
  have h:f=(x0,y0,p):=by simpa using h
  rw[h];simp[eP,List.find?_cons,e.1,e.2]
 |f::r,i+1,x,y,x0,y0,p,h,hn,e=>by
  have h1:¬(f.1=x∧f.2.1=y):=hn f A9;have:=tq (fs:=r) (i:=i) (x:=x) (y:=y) (by simpa using h) (fun g hg=>hn g (by simp[hg])) e;simpa[eP,List.find?_cons,h1]using this
def sw(f:Form):Form:=(f.2.1,f.1,f.2.2)
inductive oV(K:W.Frag)(vs:List V)(H:Hp)(Q:VK)(u3:XK):Prop
 |mk (a) (ns:List Int) (k) (_:vs=[.ref a, .int k]) (_:gF K H a (EG V.int)) (_:0≤k) (_:∀H' D (s o i l:Int),av H H'→H D=none→H' D=some (.lst [.int s, .int o, .int i, .int l])→(1≤s∧s≤999999)→(0≤o∧o≤999999)→(0≤i∧i≤999999)→(1≤l∧l≤999999)→Q (.ref D) H'):oV K vs H Q u3
theorem lF.same{fs}{d:Addr}(T:lF H C x n fs dx l d xs)(s:av H H'):lF H' C x n fs dx l d xs:=⟨De T.ob,De T.own,De T.li,T.tr.same s,De T.di⟩
theorem asy{is:List Int}(h:is.length=4):∃a b c d,is=[a,b,c,d]:=by
 match is,h with
 |[a,b,c,d],_=>exact⟨a,b,c,d,rfl⟩
theorem SameBut.apK(hx:H x=none)(xK:H dx=none)(s:SameBut x (L2.upd (L2.upd H dx (.own x)) x (.ins C dx [])) H'):av H H':=fun b u e=>by
 have n1:b≠x:=Fh hx;have n2:b≠dx:=Fh xK;exact s b u n1 (by rw[aq n1,aq n2];exact e)
end QF
namespace L2
open PySem PySem.Spec PyProof.Rows PySem.W PySem.Calls
section
variable{X:Cx}{pins:List (Addr×Obj)}{σ:St}{H:Hp}{s:Shared}{h':Heap}
theorem Inv.ahS{t':Nat}{fp:List Addr}(I:Inv X pins σ H s)(hf:∀b∈fp,IU H)(k:∀b o,b∉fp→s.heap.get? b=some o→h'.get? b=some o):Inv X pins σ H {s with heap:=h',toks:=t'}:=by
 have LA:∀b u,H b=some u→b∉fp:=fun b u e z=>by rw[(hf b z).1]at e;cases e
 refine I.step (g':=s.gens) (d':=s.drawn) (ch:=fp) (fun b hb=>?_) (fun b o _ _ hc e _=>k b o hc e) (fun b o _ _ hc e _=>⟨o.slots,k b o hc e⟩) (fun _ _ _ _ n=>n)
  (fun b o hc e=>⟨o,k b o hc e⟩) (fun _ _ e=>e) (fun _ _ _ e=>e) (fun b ps e=>⟨#[],by rw[e];simp⟩) (fun m hm=>?_) (fun b u e=>?_) I.bare
 ·obtain⟨_,f1,_,f3,f4,f5⟩:=hf b hb;exact⟨f3,f1,f4,f5⟩
 ·obtain⟨o,es,ep,ho,r⟩:=hm;exact⟨o,es,ep,k _ o (fun z=>(hf _ z).2.1 rfl) ho,r⟩
 ·refine(R1 u e).xY aud (fun _ q=>q) fun _ _ q=>q
  rcases hc with z|z
  ·rw[z];exact LA b u e
  ·exact LA c _ z
theorem Inv.DO{t':Nat}{fp:List Addr}{T:Addr}{u:HO}(I:Inv X pins σ H s)(hf:∀b∈fp,IU H)(hT:i4 X pins H T)(k:∀b o,b∉fp→s.heap.get? b=some o→h'.get? b=some o)
  (new:dA X.prog X.w (Ea T u) h' T u):Inv X pins σ (Ea T u) {s with heap:=h',toks:=t'}:=by
 have LA:∀b u,H b=some u→b∉fp:=fun b u e z=>by rw[(hf b z).1]at e;cases e
 have nT:∀b v,H b=some v→b≠T:=fun b v e z=>by rw[z,hT.1]at e;cases e
 refine I.step (g':=s.gens) (d':=s.drawn) (ch:=T::fp) (fun b hb=>?_) (fun b o _ _ hc e _=>k b o tM e) (fun b o _ _ hc e _=>⟨o.slots,k b o tM e⟩) (fun b _ hc _ n=>?_)
  (fun b o hc e=>⟨o,k b o tM e⟩) (fun b xs e=>by rw[aq lC];exact e) (fun b o v e=>by rw[aq lC];exact e) (fun b ps e=>⟨#[],by rw[aq lC,e];simp⟩) (fun m hm=>?_) (fun b v e=>?_) I.bare
 ·rcases List.mem_cons.mp hb with z|z
  ·subst z;obtain⟨_,f1,_,f3,f4,f5⟩:=hT;exact⟨f3,f1,f4,f5⟩
  ·obtain⟨_,f1,_,f3,f4,f5⟩:=hf b z;exact⟨f3,f1,f4,f5⟩
 ·rw[aq (fun z=>hc (by simp[z]))];exact n
 ·obtain⟨o,es,ep,ho,r⟩:=hm;exact⟨o,es,ep,k _ o (fun z=>(hf _ z).2.1 rfl) ho,r⟩
 ·by_cases hb:b=T
  ·subst hb;rw[ae]at e;cases e;exact new
  ·rw[aq hb]at e;refine(R1 v e).xY (fun c v' hc q=>k c v' ?_ q) (fun c q=>by rw[aq (nT c _ q)];exact q) fun c xs q=>by rw[aq (nT c _ q)];exact q
   rcases hc with z|z
   ·rw[z];exact LA b v e
   ·exact LA c _ z
theorem Inv.swap{d}(I:Inv X pins σ H s)(e:H d=some u)(ht:∀xs,u≠ .tup xs)(ho:∀x,u≠ .own x)(hb:∀ps,u≠ .JI ps)(hf:∀o v,X.fA d≠some (.t9 o v))(new:dA X.prog X.w (Ea d u') s.heap d u'):Inv X pins σ (Ea d u') s:=by
 have nd:∀b,H b=none→b≠d:=fun b n z=>by rw[z,e]at n;cases n
 have nt:∀b xs,H b=some (.tup xs)→b≠d:=fun b xs q z=>by rw[z,e]at q;cases q;exact ht xs rfl
 have no:∀b x,H b=some (.own x)→b≠d:=fun b xs q z=>by rw[z,e]at q;cases q;exact ho xs rfl
 refine⟨I.ok,I.os,I.bare,⟨I.base.keep,I.base.slot,fun b o q n hx=>?_,I.base.there,fun b xs q=>?_,fun b o v q=>?_,fun b ps q=>?_⟩,I.loc,I.cell,?_,fun x c q=>?_,fun p hp=>?_,fun b v q=>?_,I.len⟩
 ·have z:=I.base.free b o q n hx;rw[aq (nd b z)];exact z
 ·have z:=I.base.cT b xs q;rw[aq (nt b xs z)];exact z
 ·have z:=I.base.pY b o v q;rw[aq (fun y=>by subst y;exact hf o v q)];exact z
 ·obtain⟨m,z⟩:=I.base.tH b ps q;exact⟨m,by rw[aq (fun y=>by rw[y,e]at z;cases z;exact hb _ rfl)];exact z⟩
 ·rw[aq (nd _ I.free)];exact I.free
 ·rw[aq (nd _ (KA q))];exact KA q
 ·obtain⟨p1,p2,p3⟩:=I.pin p hp;exact⟨p1,by rw[aq (nd _ p2)];exact p2,p3⟩
 ·by_cases abC:b=d
  ·subst abC;rw[ae]at q;cases q;exact new
  ·rw[aq abC]at q;exact(R1 v q).xY (fun c v' _ z=>z) (fun c z=>by rw[aq (no c _ z)];exact z) fun c xs z=>by rw[aq (nt c _ z)];exact z
end
def Pq(K:Frag)(a:Addr):It:=
 ⟨fun i H=>∃xs x,gF K H a xs∧xs[i]?=some x,fun i H x H'=>∃T y,x= .ref T∧H T=none∧H'=upd H T (.tup [.int i,y])∧∀xs,gF K H a xs→xs[i]?=some y,fun i H=>∃xs,gF K H a xs∧xs.length≤i⟩
theorem aiW{P}{w}{K}{elts}{n:Nat}{pos}(a e it:_)(ed:e≠it):
  Turn P w K (.Tuple elts n pos) (Pq K a) [e,it] e (fun i h=>(∃old,IsEnum h e it (i:Nat) old)∧h.IsListIter it a i) where
 mem:=AA
 obj:=fun i h st b hb=>by
  obtain⟨⟨old,s1⟩,o,s2,_,s3⟩:=st;rcases List.mem_cons.mp hb with z|z
  ·subst z;exact⟨_,s1,fun v z=>by
    have z':Data.fields _=Data.cell v:=z;cases z'⟩
  ·have e:b=it:=by simpa using z
   subst e;exact⟨o,s2,fun v z=>by rw[s3]at z;cases z⟩
 keep:=fun i h h' st k=>⟨⟨st.1.choose,k e A9 _ st.1.choose_spec⟩,st.2.at fun o q=>k it (AA) o q⟩
 item:=by
  intro X hP hw hK hc i pins s σ H E I hf st hg;subst hP hw hK;obtain⟨xs,x,hq,hx⟩:=hg;obtain⟨⟨old,s1⟩,s2⟩:=st;obtain⟨its,rv,p,hz⟩:=DP hq;obtain⟨u,hu,ru⟩:=rv.get hx;refine wpAny_pyNext_enum_item s1 s2 p.isList (x:=u) (by simpa using hu) ed fun h' o1 o2 o3 o4 o5=>?_
  refine⟨_,rfl,wpAny_letOwnedTupleGo_enum (s:={s with heap:=h',toks:=s.toks+1}) o1 fun h2 q1 q2=>?_⟩;have qb:h2.get? s.heap.objs.size=some {cls:=Value.type "tuple",data:=Data.seq #[Gg (↑i) s.toks,u]}:=by
   exact(q2.2 _ (kJ (Bf s1))).trans o3
  have hT:i4 X pins H s.heap.objs.size:=I.ur Bj (HA Bj);have I1:Inv X pins σ (sG s.heap.objs.size) {s with heap:=h2,toks:=s.toks+1}:=by
   refine I.DO hf hT (fun b o hb q=>?_) ⟨by simp[sizeLine],[Gg (↑i) s.toks,u], .cons ⟨_,rfl⟩ (.cons ru .nil),?_⟩
   ·have b1:b≠e:=fun z=>hb (by simp[z])
    have b2:b≠it:=fun z=>hb (by simp[z])
    exact(q2.2 b b1).trans (o5 b o b1 b2 q)
   ·exact⟨_,qb,rfl,_,rfl⟩
  refine⟨.ref s.heap.objs.size,_,I1,rfl,⟨_,x,rfl,hT.1,rfl,fun ys hy=>by rw[I.um hy hq];exact hx⟩,⟨⟨u,by simpa using q1⟩,o2.at fun o q=>(q2.2 it (Ay ed)).trans q⟩,fun b hb=>?_⟩;rw[aq QK]
  ·exact(FK b).1
  ·have h1:=Heap.lt_size s1;obtain⟨_,h2,_⟩:=s2;have h3:=Bf h2;rcases List.mem_cons.mp hb with y|y
   ·rw[pQ y]at h1;exact IS h1
   ·have:b=it:=by simpa using y
    rw[pQ this]at h3;exact IS h3
 done:=by
  intro X hP hw hK hc i pins s σ H E I hf st hg;subst hP hw hK;obtain⟨xs,hq,hx⟩:=hg;obtain⟨⟨old,s1⟩,s2⟩:=st;obtain⟨its,rv,p,hz⟩:=DP hq;have hl:=rv.length;exact wpAny_pyNext_enum_end Gp s1 s2 p.isList (by simp;lia) fun h' eb=>⟨rfl,I.ahS (t':=s.toks) hf (fun b o hb q=>eb b o (fun z=>hb (by simp[z])) q)⟩
 self:=fun _ _ _ _ _ st h=>wpAny_pyIter_enum st.1.choose_spec h
section
variable{X:Cx}{tg:Expr}
def acN(K:Frag)(ta:TA):TI:=fun σ H R=>ta σ H fun vs H1=>∃a,vs=[.ref a]∧(∃xs,gF K H1 a xs)∧R (Pq K a) H1
theorem anN{tp}{a}{p:Pos}(hg:Gl X "enumerate")(hm:X.mg "enumerate"=none)(ha:PA X [a] ta)(hs:starEach [a] X.env=[(false,eval a X.env)]:=by rfl):
  PI X (.Tuple elts n tp) (.Call (.Name "enumerate" p) [a] [] pos) (acN X.K ta):=by
 intro pins s σ H R I h;refine Call_ (jE I hg hm boot_enumerate (PyProof.Rows.callWith_type1 (cU JJ fun us s1 ⟨vs,H1,I1,r1,q1⟩=>?_) hs rfl));obtain⟨l,e,⟨xs,hq⟩,q⟩:=q1;subst e;cases r1 with
 |cons r rr=>
  cases rr;cases r;obtain⟨its,rv,p,hz⟩:=I1.list hq;refine call_enumerate_list p.isList fun h' o1 o2 o3 o4=>?_
  refine wpAny_pyIter_enum (s:={s1 with heap:=h'}) o1 ?_;refine⟨s1.heap.objs.size+1,[s1.heap.objs.size+1,s1.heap.objs.size],_,_,H1,rfl,zP o4,aiW l _ _ (Nat.succ_ne_self _),⟨⟨_,o1⟩,o2⟩,fun b hb=>?_,q⟩;have Pt:s1.heap.objs.size≤b:=by
   rcases List.mem_cons.mp hb with y|y
   ·rw[y];exact Nat.le_succ _
   ·have:b=s1.heap.objs.size:=by simpa using y
    exact Nb this.symm
  exact I1.ur Pt (ZH Pt)
end
theorem kT{X} (K) {elts} {n} {tp} {a} {ta} {p pos} (hg:Gl X "enumerate") (hm:X.mg "enumerate"=none) (ha:PA X [a] ta) (hs:starEach [a] X.env=[(false,eval a X.env)]:=by rfl) (h:X.K=K:=by rfl):
  PI X (.Tuple elts n tp) (.Call (.Name "enumerate" p) [a] [] pos) (acN K ta):=h▸anN hg hm ha hs
theorem uG{K:Frag}{a:Addr}{xs:List V}{g:TG}{tb:TS}{D:Ends}{σ}{H}(Pv:Nat→St→Hp→Prop)(h0:Pv 0 σ H)(hl:∀i σ H,i≤xs.length→Pv i σ H→gF K H a xs)
  (hs:∀i x T σ H,xs[i]?=some x→Pv i σ H→H T=none→g (.ref T) σ (sG T) fun f6 H2=>tb {D with nx:=Pv (i+1),ct:=Pv (i+1),bk:=D.nx} f6 H2) (hd:∀σ H,Pv xs.length σ H→D.nx σ H):
  ∃W:Nat→Nat→St→Hp→Prop,(∃m,Ro H)∧∀i m σ H,W i m σ H→
   ((Pq K a).stop i H∧D.nx σ H)∨((Pq K a).go i H∧∃N:St→Hp→Prop,(∀bK H',N bK H'→∃m',m'<m∧W (i+1) m' bK H')∧∀x H',(Pq K a).JL i H x H'→g x σ H' fun f6 H2=>tb {D with nx:=N,ct:=N,bk:=D.nx} f6 H2):=by
 refine⟨fun i m σ H=>m=xs.length-i∧i≤xs.length∧Pv i σ H,⟨xs.length,AA,Nat.zero_le _,h0⟩,?_⟩;rintro i m σ H ⟨rfl,hi,p⟩;have hq:=hl i σ H hi p;by_cases iO:i<xs.length
 ·refine .inr ⟨⟨xs,xs[i],hq,by simp[iO]⟩,Pv (i+1),fun bK H' p'=>⟨xs.length-(i+1),by lia,rfl,iO,p'⟩,fun x H' y=>?_⟩;obtain⟨T,y,rfl,hT,rfl,hy⟩:=y;exact hs i y T σ H (hy xs hq) p hT
 ·have e:i=xs.length:=by lia
  subst e;exact .inl ⟨⟨xs,hq,Nat.le_refl _⟩,Td p⟩
def NF(fA:Hp)(d:Addr):Prop:=∀o v,fA d≠some (.t9 o v)
section
variable{X:Cx}{tg:Expr}
end
end L2
namespace QF
open PySem L2
inductive yy(K:W.Frag)(vs:List V)(H:Hp)(Q:VK)(u3:XK):Prop
 |mk (a b:_) (ns:List Int) (zs:List Str) (c p m:_) (_:vs=[.ref a, .int c, .int p, .int m, .ref b]) (_:gF K H a (EG V.int)) (_:H b=some (.lst GA)) (_:(1≤zs.length∧zs.length≤1000)) (_:0≤p) (_:0≤m) (_:m≤1000) (_:∀H' l (ws:List Str),av H H'→H l=none→H' l=some (.lst KN)→ws.length=m.toNat→(∀w∈ws,w∈zs)→Q (.ref l) H'):yy K vs H Q u3
end QF
namespace L2
open PySem PySem.Spec PyProof.Rows PySem.W PySem.Calls
section
variable{X:Cx}
theorem ami (K) {T} {name} {id} {r} {o} {apos fe} {to} (pa:PlainAttrs T) (slot:Slot T name id) (FY:typeOf (.builtin id)=pure (.type "method_descriptor")) (hm:Tr X id r) (ho:PE X o to)
  (p9:attributeBase o name X.env (eval o X.env)=eval o X.env:=by rfl) (p_:(apos.endLine==fe.line)=true:=by rfl) (hK:X.K=K:=by rfl):PE X (.Call (.Attribute o name apos) [] [] fe) (QZ K T r to):=hK▸ams pa slot FY hm ho p9 p_
end
end L2
namespace QF
open PySem L2
def VM(c:Nat):Bool:=decide (65≤c)&&decide (c≤90)
def conv(c:Nat):Nat:=if low c=true then c else if VM c=true then c+32 else 32
abbrev great:Str:=D7 "ABCDEFGHIJKLMNOPQRSTUVWXYZ"
def rd(st:KWd.St)(cs:List Nat):KWd.St:=(cs.map conv).foldl KWd.step st
abbrev both:Str:=D7 "abcdefghijklmnopqrstuvwxyzABCDEFGHIJKLMNOPQRSTUVWXYZ"
abbrev marks:Str:=D7 " .,-'0123456789!?()[]{}@`_~/:;<=>#$&*+|^\\\""
end QF
namespace L2
open PySem PySem.Spec PyProof.Rows PySem.W PySem.Calls
section
variable{X:Cx}
def TN(xs ys:List V)(f:Nat->Bool):Prop:=∀(j:Nat)(x y:V),xs[j]?=some x->ys[j]?=some y->(s_ x=true/\s_ y=true/\f j=xB x y)∨(∃a,x= .ref a/\y= .ref a/\f j=true)
theorem Cc{its dZ}(r:Vals xs its)(r2:Vals ys dZ)(h:TN xs ys f):
  ∀j (h1:j<its.toArray.size) (h2:j<dZ.toArray.size),SeqAt.EqAt A s its.toArray[j] dZ.toArray[j] (f j):=λj h1 h2=>by
 have Pu:j<xs.length:=by have:=r.length;simp at h1;lia
 have LY:j<ys.length:=by have:=r2.length;simp at h2;lia
 obtain⟨a1,e1,q1⟩:=r.get (i:=j) (x:=xs[j]) (by simp[Pu]);obtain⟨a2,e2,q2⟩:=r2.get (i:=j) (x:=ys[j]) (by simp[LY]);have g1:its.toArray[j]=a1:=by simpa[List.getElem?_eq_some_iff]using(AM e1).2
 have g2:dZ.toArray[j]=a2:=by simpa[List.getElem?_eq_some_iff]using(AM e2).2
 rw[g1,g2];rcases h j xs[j] ys[j] (by simp[Pu]) (by simp[LY])with⟨f1,f2,ef⟩|⟨a,ex,ey,ef⟩
 ·rw[ef];exact yd q1 q2 f1 f2
 ·rw[ef];rw[ex]at q1;rw[ey]at q2;cases q1;cases q2;exact SeqAt.EqAt.same _
inductive Rv(K:Frag)(x:V)(y:V)(H:Hp)(Q:VK):Prop
 |mk (p) (q) (xs) (ys) (f) (_:x= .ref p) (_:y= .ref q) (_:gF K H p xs) (_:gF K H q ys) (_:TN xs ys f) (_:Q (.bl (decide (xs.length=ys.length)&&(B5 xs.length).all f)) H):Rv K x y H Q
theorem afl (K) (hu:X.A.units<cLine) (hK:X.K=K:=by rfl):rm X (compareOp .Eq) (Rv K):=by
 subst hK;intro pins s σ H x y v u Q I rx ry h;obtain⟨p,q,xs,ys,f,rfl,rfl,hp,hq,hf,k⟩:=h;cases rx;cases ry;obtain⟨its,r,pl,hz⟩:=DP hp;obtain⟨dZ,r2,Ke,Po⟩:=DP hq;have l1:=r.length;have l2:=r2.length;obtain⟨⟨cls,dd,data,sl⟩,ho,hc,n,hd⟩:=id pl.isList;obtain⟨⟨NL,F6,data2,yg⟩,xI,vU,n2,hd2⟩:=id Ke.isList;simp only at hc hd vU hd2;subst hc hd vU hd2;by_cases e:xs.length=ys.length
 ·have hsz:its.toArray.size=dZ.toArray.size:=by rw[List.size_toArray,List.size_toArray];lia
  refine richCompare_meets_room (op:= .Eq) ⟨_,ho,rfl⟩ ⟨_,xI,rfl⟩ F.slot_list_eq F.entry_list_eq auT (SeqAt.list_eqAt p q its.toArray dZ.toArray n n2 dd F6 sl yg hsz f) ⟨ho,xI,Cc r r2 hf,?_⟩ hu;rw[EK e,Bool.true_and]at k;refine⟨(λx=>nomatch x), .bl ((B5 xs.length).all f),H,I,?_,k⟩;rw[List.size_toArray,<-l1];rfl
 ·have hsz:(its.toArray.size !=dZ.toArray.size)=true:=by
   rw[List.size_toArray,List.size_toArray];simp;lia
  refine richCompare_meets_room (op:= .Eq) ⟨_,ho,rfl⟩ ⟨_,xI,rfl⟩ F.slot_list_eq F.entry_list_eq auT (SeqAt.list_eq_lengthsAt p q its.toArray dZ.toArray n n2 dd F6 sl yg hsz) ⟨ho,xI,?_⟩ hu;rw[EI e,Bool.false_and]at k;exact⟨(λx=>nomatch x), .bl false,H,I,rfl,k⟩
inductive Rw(K:Frag)(x:V)(y:V)(H:Hp)(Q:VK):Prop
 |mk (p) (q) (xs) (ys) (f) (_:x= .ref p) (_:y= .ref q) (_:gF K H p xs) (_:gF K H q ys) (_:TN xs ys f) (_:Q (.bl (!(decide (xs.length=ys.length)&&(B5 xs.length).all f))) H):Rw K x y H Q
theorem ahJ (K) (hu:X.A.units<cLine) (hK:X.K=K:=by rfl):rm X (compareOp .NotEq) (Rw K):=by
 subst hK;intro pins s σ H x y v u Q I rx ry h;obtain⟨p,q,xs,ys,f,rfl,rfl,hp,hq,hf,k⟩:=h;cases rx;cases ry;obtain⟨its,r,pl,hz⟩:=DP hp;obtain⟨dZ,r2,Ke,Po⟩:=DP hq;have l1:=r.length;have l2:=r2.length;obtain⟨⟨cls,dd,data,sl⟩,ho,hc,n,hd⟩:=id pl.isList;obtain⟨⟨NL,F6,data2,yg⟩,xI,vU,n2,hd2⟩:=id Ke.isList;simp only at hc hd vU hd2;subst hc hd vU hd2;by_cases e:xs.length=ys.length
 ·have hsz:its.toArray.size=dZ.toArray.size:=by rw[List.size_toArray,List.size_toArray];lia
  refine richCompare_meets_room (op:= .NotEq) ⟨_,ho,rfl⟩ ⟨_,xI,rfl⟩ F.slot_list_ne F.entry_list_ne VY (SeqAt.list_neAt p q its.toArray dZ.toArray n n2 dd F6 sl yg hsz f) ⟨ho,xI,Cc r r2 hf,?_⟩ hu;rw[EK e,Bool.true_and]at k;refine⟨(λx=>nomatch x), .bl (!(B5 xs.length).all f),H,I,?_,k⟩;rw[List.size_toArray,<-l1];rfl
 ·have hsz:(its.toArray.size !=dZ.toArray.size)=true:=by
   rw[List.size_toArray,List.size_toArray];simp;lia
  refine richCompare_meets_room (op:= .NotEq) ⟨_,ho,rfl⟩ ⟨_,xI,rfl⟩ F.slot_list_ne F.entry_list_ne VY (SeqAt.list_ne_lengthsAt p q its.toArray dZ.toArray n n2 dd F6 sl yg hsz) ⟨ho,xI,?_⟩ hu;rw[EI e,Bool.false_and]at k;exact⟨(λx=>nomatch x), .bl true,H,I,rfl,k⟩
end
section
variable{X:Cx}
end
end L2
namespace QF
open PySem L2
abbrev Pr:=Int×Int
def kM(p:Pr):List V:=[.int p.1, .int p.2]
def gw(H:Hp)(vs:List V)(ps:List Pr):Prop:=vs.length=ps.length/\∀(i:Nat)(p:Pr),ps[i]?=some p->∃t,vs[i]?=some (C_ t)/\H t=some (.tup JK)
theorem gw.nil:gw H [] []:=⟨rfl,λi f e=>by simp at e⟩
theorem gw.cT{fs}(T:gw H xs fs)(k:eC H H'):gw H' xs fs:=⟨T.1,λi f e=>let ⟨b,h1,h2⟩:=T.2 i f e;⟨b,h1,k _ _ h2⟩⟩
theorem gw.same{fs}(t:gw H xs fs)(s:av H H'):gw H' xs fs:=t.cT (Ex s)
theorem gw.append{fs:List Pr}(T:gw H xs fs)(U:gw H ys gs):gw H (xs++ys) (fs++gs):=by
 refine⟨by simp[T.1,U.1],λi p e=>?_⟩;by_cases h:i<fs.length
 ·rw[Bi h]at e;obtain⟨b,h1,h2⟩:=T.2 i p e;exact⟨b,by rw[Bi (by rw[T.1];exact h)];exact h1,h2⟩
 ·rw[Br A3]at e;obtain⟨b,h1,h2⟩:=U.2 _ p e;exact⟨b,by rw[Br (by rw[T.1];lia),T.1];exact h1,h2⟩
theorem gw.one{t}{p}(ht:H t=some (.tup JK)):gw H [.ref t] [p]:=by
 refine⟨rfl,λi q e=>?_⟩
 match i,e with
 |0,e=>cases e;exact⟨t,rfl,ht⟩
 |i+1,e=>simp at e
def pr(ps:List Pr)(k:Nat):Pr:=FH k
theorem adA{ps}(h:k<ps.length):ps[k]?=some (Av k):=by
 simp[pr,h]
theorem gw.NN(T:gw H xs ps)(h:k<ps.length):∃t,xs[k]?=some (C_ t)/\H t=some (.tup [.int (Av k).1, .int (Av k).2]):=T.2 k _ (adA h)
theorem iB{ps}{p}(h:k<ps.length):pr (ps++[p]) k=pr ps k:=by
 simp[pr,List.getD_eq_getElem?_getD,Bi h]
theorem uf{p}:pr (ps++[p]) ps.length=p:=by
 simp[pr,List.getD_eq_getElem?_getD]
structure Case where
 xs:List Str
 ys:List Str
 same:Int
 out:Int
 into:Int
 least:Int
 fs:List Form
structure jd(H:Hp)(a:Addr)(c:Case)(f g m l:Addr)(vs:List V):Prop where
 ca:H a=some (.lst [.ref f, .ref g, .ref m, .ref l])
 fi:H f=some (.lst Vh)
 se:H g=some (.lst SY)
 nu:H m=some (.lst [.int c.same, .int c.out, .int c.into, .int c.least])
 ne:H l=some (.lst vs)
 tr:eF H vs c.fs
theorem jd.keep{a}(C:jd H a c f g m l vs)(s:av H H'):jd H' a c f g m l vs:=⟨De C.ca,De C.fi,De C.se,De C.nu,De C.ne,C.tr.same s⟩
structure fh(most:Nat)(c:Case):Prop where
 x:c.xs.length<=most
 y:c.ys.length<=most
 good:bY c.fs=true
 same:1<=c.same/\c.same<=999999
 out:0<=c.out/\c.out<=999999
 into:0<=c.into/\c.into<=999999
 least:1<=c.least/\c.least<=999999
def wd(xs:List Str)(i:Int):Option Str:=if 0<=i then xs[i.toNat]? else none
theorem uH{xs:List Str}{i:Nat}:wd xs (i:Int)=xs[i]?:=by simp[wd]
theorem xM{xs}(h0:0<=i)(h:i<(xs.length:Int)):∃x,wd xs i=some x/\uc (MI V.str) i=some (.str x):=by
 obtain⟨j,rfl⟩:=Ku h0;have hj:j<xs.length:=by lia
 exact⟨xs[j],by rw[uH];simp[hj],ar (by simp[hj])⟩
theorem acM(h:wd xs i=some x):0<=i/\i<(xs.length:Int):=by
 unfold wd at h;split at h
 ·have:=(AM h).1
  lia
 ·cases h
def Case.pw(c:Case)(p:Pr):Option Int:=(wd c.xs p.1).bind λx=>(wd c.ys p.2).bind λy=>Kj c.same c.fs
theorem Case.pw_of{c:Case}{p}(h1:wd c.xs p.1=some x)(h2:wd c.ys p.2=some y):c.pw p=dS c.same c.fs x y:=by simp[Case.pw,h1,h2]
theorem Case.pw_in{c:Case}{p}(h:c.pw p=some w):(0<=p.1/\p.1<(c.xs.length:Int))/\(0<=p.2/\p.2<(c.ys.length:Int)):=by
 unfold Case.pw at h;cases e1:wd c.xs p.1 with
 |none=>rw[e1]at h;cases h
 |some x=>
  cases e2:wd c.ys p.2 with
  |none=>rw[e1,e2]at h;cases h
  |some y=>exact⟨acM e1,acM e2⟩
theorem Case.pw_out{c:Case}{p:Pr}(h:¬((0<=p.1/\p.1<(c.xs.length:Int))/\(0<=p.2/\p.2<(c.ys.length:Int)))):c.pw p=none:=by
 cases e:c.pw p with
 |none=>rfl
 |some w=>exact BO (Ni e) h
def stepOk(q p:Pr):Bool:=decide (q.1<p.1)&&decide (q.2<p.2)
def Case.gap(c:Case)(q p:Pr):Int:=c.out*(p.1-q.1-1)+c.into*(p.2-q.2-1)
def dR(c:Case)(ps:List Pr)(k:Nat):Bool:=(Fl (Av k)).isSome&&(decide (k=0)||stepOk (Av (k-1)) (Av k))
def mO(c:Case)(ps:List Pr)(n:Nat):Prop:=∀k,k<n->dR c ps k=true
def ma(c:Case)(ps:List Pr):Bool:=!ps.isEmpty&&(B5 ps.length).all (dR c ps)
def dW(c:Case)(ps:List Pr):Nat->Int
 |0=>(Fl (Av 0)).getD 0
 |k+1=>(Fl (Av (k+1))).getD 0+dW c ps k-c.gap (Av k) (Av (k+1))
theorem nJ(h:ps≠[])(g:mO c ps ps.length):ma c ps=true:=by
 have h1:ps.isEmpty=false:=by simpa using h
 have h2:(B5 ps.length).all (dR c ps)=true:=List.all_eq_true.mpr λk hk=>g k (by simpa using hk)
 simp[ma,h1,h2]
theorem aoX{ps}(hk:k<ps.length)(g:dR c ps k=false):ma c ps=false:=by
 have h2:(B5 ps.length).all (dR c ps)=false:=by
  rw[Bool.eq_false_iff];intro z;rw[List.all_eq_true]at z;rw[z k (by simpa using hk)]at g;cases g
 simp[ma,h2]
theorem lG(h:ma c ps=true):ps≠[]/\mO c ps ps.length:=by
 simp only[ma,Bool.and_eq_true,List.all_eq_true]at h;refine⟨λz=>by subst z;simp at h,λk hk=>h.2 k (by simpa using hk)⟩
theorem mO.next(h:mO c ps n)(g:dR c ps n=true):mO c ps (n+1):=λk hk=>by
 by_cases e:k=n
 ·rw[e];exact g
 ·exact h k (by lia)
theorem awn(h:dR c ps k=true):∃w,c.pw (Av k)=some w:=by
 simp only[dR,Bool.and_eq_true]at h;exact Hj h.1
theorem aul{p}(g:mO c ps ps.length)(h:(Fl p).isSome=true)(f:ps=[]∨stepOk (Av (ps.length-1)) p=true):mO c (ps++[p]) (ps.length+1):=λk hk=>by
 by_cases e:k<ps.length
 ·have:=g k e;simp only[dR]at this⊢;rw[iB e];by_cases k0:k=0
  ·subst k0;simpa using this
  ·rw[iB (by lia:k-1<ps.length)];exact this
 ·have:k=ps.length:=by lia
  subst this;simp only[dR];rw[uf,h];rcases f with f|f
  ·subst f;rfl
  ·by_cases e0:ps.length=0
   ·simp[e0]
   ·rw[iB A3,f];simp
structure L0(c:Case):Prop where
 out:0<=c.out/\c.out<=999999
 into:0<=c.into/\c.into<=999999
theorem fh.num(h:fh m c):L0 c:=⟨h.out,h.into⟩
def uI(H:Hp)(CT t:Addr)(c:Case):Prop:=∃n dx l d vs,lF H CT t n c.fs dx l d vs/\n.same=c.same/\n.out=c.out/\n.into=c.into/\n.least=c.least
theorem uI.keep{t:Addr}(T:uI H CT t c)(s:av H H'):uI H' CT t c:=by
 obtain⟨n,dx,l,d,vs,T,r⟩:=T;exact⟨n,dx,l,d,vs,T.same s,r⟩
inductive uJ(K:W.Frag)(vs:List V)(H:Hp)(Q:VK)(u3:XK):Prop
 |mk (a b x:_) (ns:List Int) (zs ws:List Str) (c p m:_) (_:vs=[.ref a, .int c, .int p, .int m, .ref x, .ref b]) (_:gF K H a (EG V.int)) (_:H b=some (.lst GA)) (_:H x=some (.lst KN)) (_:(1<=zs.length/\zs.length<=1000)) (_:ws.length<=1000) (_:(∀w∈ws,w∈zs)) (_:0<=p) (_:0<=m) (_:m<=1000) (_:∀H' l (ws:List Str),av H H'->H l=none->H' l=some (.lst KN)->ws.length=m.toNat->(∀w∈ws,w∈zs)->Q (.ref l) H'):uJ K vs H Q u3
inductive yz(K:W.Frag)(vs:List V)(H:Hp)(Q:VK)(u3:XK):Prop
 |mk (a) (ns:List Int) (most) (_:vs=[.ref a, .int most]) (_:gF K H a (EG V.int)) (_:0<=most) (_:most<=40) (_:∀H' b c f g m l us,av H H'->H b=none->jd H' b c f g m l us->fh most.toNat c->Q (.ref b) H'):yz K vs H Q u3
inductive rH(C:Addr)(vs:List V)(H:Hp)(Q:VK)(u3:XK):Prop
 |mk (a) (c) (f g m l:_) (us) (most) (_:vs=[.ref a]) (_:jd H a c f g m l us) (_:fh most c) (_:∀H' t,av H H'->uI H' C t c->Q (.ref t) H'):rH C vs H Q u3
inductive rJ(vs:List V)(H:Hp)(Q:VK)(u3:XK):Prop
 |mk (a) (us) (ps) (_:vs=[.ref a]) (_:H a=some (.lst us)) (_:gw H us ps) (_:Q (.bl true) H):rJ vs H Q u3
inductive uK(vs:List V)(H:Hp)(Q:VK)(u3:XK):Prop
 |mk (a w:_) (c) (f g m l:_) (us) (ws) (ps) (_:vs=[.ref a, .ref w]) (_:jd H a c f g m l us) (_:H w=some (.lst ws)) (_:gw H ws ps) (_:ps.length<=10000) (_:∀H',av H H'->Q (.bl (ma c ps)) H'):uK vs H Q u3
inductive rK(vs:List V)(H:Hp)(Q:VK)(u3:XK):Prop
 |mk (a w:_) (c) (f g m l:_) (us) (ws) (ps) (_:vs=[.ref a, .ref w]) (_:jd H a c f g m l us) (_:L0 c) (_:H w=some (.lst ws)) (_:gw H ws ps) (_:ps.length<=10000) (_:ma c ps=true) (_:Q (.int (uB c)) H):rK vs H Q u3
end QF
namespace L2
open PySem PySem.Spec PyProof.Rows PySem.W PySem.Calls
section
variable{pg:Program}{wd:World}{Ar:Around}{Rs:Result->Shared->Prop}{it:Addr}{fp wr:List Addr}{n:Nat}{Pv:Nat->Value->Prop}{Sv:Nat->Heap->Prop}
def yA:(toString "max"++toString ".loop":String)="max.loop":=AN
theorem atV(Wk:Walks pg wd Ar.in1 it fp wr n Pv Sv) (bt) (cmp:CmpOf pg wd Ar.in1 .Gt Pv bt) (B) (nb:B∉fp) (dv):
  ∀(k j:Nat)(st:Shared)(old:List Value)(c:Nat),n-j=k->j<=n->Sv j st.heap->((j=0/\old=[])∨∃vb,0<j/\old=[vb,vb]/\Pv (KS (j-1)) vb)->
  st.heap.get? B=some {cls:= .type "list",dict:=none,data:= .seq old.toArray c,slots:=#[]}->
  (∀v h' tk,((n=0/\v=dv)∨(0<n/\Pv (KS (n-1)) v))->(∀b o,b∉wr->b≠B->st.heap.get? b=some o->h'.get? b=some o)->Rs (.ok (.ret v)) {st with heap:=h',toks:=tk})->
  codeAny qd Ar (.builtin "max.loop" ⟨[.ref it, .none, .ref B],[("default",dv)]⟩) Rs st:=by
 have nw:B∉wr:=λz=>nb (Wk.sub _ z)
 intro k
 induction k with
 |zero=>
  intro j st old c ek lj sv ol eB fin;have ej:j=n:=by lia
  subst ej;refine codeAny_builtin F.entry_max_loop ?_;rw[vT F.plain_max_loop];show wpAny _ Ar.in1 (seqItems? (.ref B)>>=_) _ _ st;refine wpAny_bind (tP eB ?_);show wpAny _ Ar.in1 (tryCatch (pyNext (.ref it)) _>>=_) _ _ st;refine wpAny_bind (lq (Wk.done st _ _ sv λh' tk kp=>?_));rcases ol with⟨z0,rfl⟩|⟨vb,z0,rfl,pb⟩
  ·refine wpAny_bind (Y8 μ);exact fin dv _ tk (.inl ⟨z0,rfl⟩) λb o hb _ e=>alY e
  ·have NO:=kp B _ nw eB;show wpAny _ Ar.in1 (updateSeq B (λ_=>#[])>>=_) _ _ _;refine wpAny_bind ?_;refine wpAny_updateSeq NO rfl (Ax xg);exact fin vb _ tk (.inr ⟨z0,pb⟩) λb o hb hB e=>(LX oz).trans UJ
 |succ k ih=>
  intro j st old c ek lj sv ol eB fin;have lt:j<n:=by lia
  refine codeAny_builtin F.entry_max_loop ?_;rw[vT F.plain_max_loop];show wpAny _ Ar.in1 (seqItems? (.ref B)>>=_) _ _ st;refine wpAny_bind (tP eB ?_);show wpAny _ Ar.in1 (tryCatch (pyNext (.ref it)) _>>=_) _ _ st;refine wpAny_bind (lq (Wk.item j st _ _ lt sv λv h' tk pv V5 kp=>?_));have NO:=kp B _ nw eB;have up:∀(g:Array Value->Array Value)(b:Addr),b∈fp->∀o,h'.get? b=some o->(h'.update B (GF g)).get? b=some o:=λg b hb o e=>(LX (λz:B=b=>nb (by rw[z];exact hb))).trans e
  rcases ol with⟨rfl,rfl⟩|⟨vb,z0,rfl,pb⟩
  ·show wpAny _ Ar.in1 (updateSeq B (λ_=>#[v,v])>>=_) _ _ _;refine wpAny_bind ?_;refine wpAny_updateSeq NO rfl ?_;rw[yA];refine wpAny_pure ⟨Oz F.plain_max_loop,ih 1 _ [v,v] _ (by lia) lt (anD V5) (.inr ⟨v,AN,rfl,pv⟩) (zJ NO) λv' h2 Rx pf Ry=>?_⟩;exact fin v' h2 Rx pf λb o hb hB e=>Ry b o hb hB ((LX oz).trans UJ)
  ·obtain⟨i,rfl⟩:∃i,j=i+1:=⟨j-1,by lia⟩
   have pb:Pv (KS i) vb:=pb;show wpAny _ Ar.in1 (tryCatch (holding [v,v] (richCompare .Gt v vb>>=_)) _>>=_) _ _ _;refine wpAny_bind (lq (IC (Ax (cmp (i+1) (KS i) v vb _ _ _ pv pb ?_))));refine wpAny_bind (IC (LH ?_));refine wpAny_bind xg;cases hb:bt (i+1) (KS i)with
   |true=>
    simp only[if_true];refine wpAny_bind ?_;refine wpAny_updateSeq NO rfl (Ax Z9);rw[yA];refine wpAny_pure ⟨Oz F.plain_max_loop,ih (i+2) _ [v,v] _ (by lia) lt (anD V5) (.inr ⟨v,by lia,rfl,?_⟩) (zJ NO) λv' h2 Rx pf Ry=>?_⟩
    ·show Pv (KS (i+1)) v;simp only[argBest,hb,if_true];exact pv
    ·exact fin v' h2 Rx pf λb o hb hB e=>Ry b o hb hB ((LX oz).trans UJ)
   |false=>
    simp only[Bool.false_eq_true,if_false];refine wpAny_bind Z9;rw[yA];refine wpAny_pure ⟨Oz F.plain_max_loop,ih (i+2) _ [vb,vb] c (by lia) lt V5 (.inr ⟨vb,by lia,rfl,?_⟩) NO λv' h2 Rx pf Ry=>?_⟩
    ·show Pv (KS (i+1)) vb;simp only[argBest,hb,Bool.false_eq_true,if_false];exact pb
    ·exact fin v' h2 Rx pf λb o hb hB e=>Ry b o hb hB UJ
theorem akA(a d:_):argsOk "max" ⟨[a],[("default",d)]⟩:=by unfold argsOk;kernel_rfl
end
section
variable{X:Cx}
def NP:Option Int->V
 |none=> .de
 |some i=> .int i
theorem apx{is:List Int}(r:Vals pR us):us.length=is.length/\∀(j:Nat)(v:Value),us[j]?=some v->∃t,v= .int (qC j) t:=by
 have hl:=r.length;rw[List.length_map]at hl;refine⟨hl.symm,λj v e=>?_⟩;have hj:j<is.length:=by have:=(AM e).1;lia
 obtain⟨u,eu,ru⟩:=r.get (i:=j) (x:= .int is[j]) (by simp[hj]);rw[e]at eu;cases eu;obtain⟨t,rfl⟩:=ru;exact⟨t,by simp[hj]⟩
theorem anW{is:List Int}(hk:k<is.length)(h:∀j,j<is.length->is.getD j 0<=is.getD k 0):is.max?=some (qC k):=by
 rw[List.max?_eq_some_iff];refine⟨by simp[hk],λb hb=>?_⟩;obtain⟨j,hj,rfl⟩:=Gq hb;have:=h j hj;simpa[hj]using this
theorem ana(hc:X.calm=true){a}{is:List Int}(I:Inv X pins σ H s)(hq:gF X.K H a (WH V.int))(q:Q (NP is.max?) H):
  wpAny Ak X.A (call (.builtin "max") [.ref a] [("default", .none)]) (DR Q) X.xe s:=by
 obtain⟨its,rv,p,hz⟩:=DP hq;obtain⟨hl,hv⟩:=apx rv;refine wpAny_call (codeAny_call_builtin F.plain_max F.entry_max ?_);simp only[checkBuiltinCall,F.kind_max];have body:wpAny Ak X.A.in1 (Builtin.«max» ⟨[.ref a],[("default", .none)]⟩) (λfin s'=>match fin with
   | .done f=>(match (Except.ok f:Result)with| .ok (.ret v)=>EP X pins σ Q v s'| .ok _=>False| .error e=>X.xe e s')
   | .again c'=>c'.quiet=true/\codeAny Ak X.A c' (λr s'=>match r with| .ok (.ret v)=>EP X pins σ Q v s'| .ok _=>False| .error e=>X.xe e s') s') X.xe s:=by
  show wpAny _ X.A.in1 (Builtin.Builtins.bindParams "max" ["key","default"] 0 ⟨[],[("default", .none)]⟩>>=_) _ _ s;refine wpAny_bind (wpAny_of_eq (show Builtin.Builtins.bindParams "max" ["key","default"] 0 ⟨[],[("default", .none)]⟩=pure [none,some .none]from rfl) ?_);refine wpAny_bind (B2 (Ax (υ ?_)));have ed:a≠s.heap.objs.size:=by
   obtain⟨o,n,e,_⟩:=p;exact Dn oT
  refine wpAny_bind (wJ ?_);rw[yA];have eS:(s.heap.push {cls:= .type "list_iterator",data:= .fields #[.ref a, .int 0 0]}).objs.size=s.heap.objs.size+1:=by simp[Heap.push]
  have Wk:=Walks.list (prog:=X.prog) (w:=X.w) (A:=X.A.in1) (show X.A.in1.handled=none from I.ok.hd hc) s.heap.objs.size a ed its.toArray;refine wpAny_pure ⟨Oz F.plain_max_loop,atV (pg:=X.prog) (wd:=X.w) Wk _ (CmpOf.ints_gt axf λj v e=>hv j v (by simpa using e)) (s.heap.push {cls:= .type "list_iterator",data:= .fields #[.ref a, .int 0 0]}).objs.size ?_ .none _ 0 _ [] 0 rfl (Nat.zero_le _) ?_ (.inl ⟨rfl,rfl⟩) ?_ λv h' tk pf kp=>?_⟩
  ·intro z;simp only[List.mem_cons,List.not_mem_nil,or_false]at z;rw[eS]at z;rcases z with z|z
   ·exact apW z
   ·obtain⟨o,n,e,_⟩:=p;have lt:=Bf e;rw[<-z]at lt;exact KH tI
  ·exact⟨⟨_,BL vA,rfl,rfl⟩,p.isList.at λo e=>BL (BL e)⟩
  ·exact Heap.get?_push_size _ rfl
  ·have keep:∀b o,s.heap.get? b=some o->h'.get? b=some o:=λb o e=>by
    have lt:=Bf e;refine kp b o QK (λz=>?_) (BL (BL e))
    ·have z:b=s.heap.objs.size:=by simpa using z
     rw[z]at lt;exact KH lt
    ·rw[z,eS]at lt;exact KH tI
   have sz:its.toArray.size=is.length:=by simp[hl]
   rcases pf with⟨h0,rfl⟩|⟨h0,pf⟩
   ·have:is=[]:=List.length_eq_zero_iff.mp A3;subst this;exact⟨.de,H,ic (t':=tk),rfl,q⟩
   ·rw[List.getElem?_toArray]at pf;obtain⟨t,rfl⟩:=hv _ v pf;obtain⟨b1,b2⟩:=argBest_gt axf (its.toArray.size-1);have em:=anW (is:=is) (k:=argBest (λi j=>decide (is.getD i 0>is.getD j 0)) (its.toArray.size-1)) (by lia) λj hj=>b2 j A3
    rw[em]at q;exact⟨.int _,H,ic (t':=tk),⟨t,rfl⟩,q⟩
 cases adj:Manifest.signature? "max" with
 |none=>exact B2 body
 |some sig=>
  have ha:=akA (.ref a) .none;simp only[argsOk,adj]at ha;have h2:Bind.checkArgs "max" sig ⟨[.ref a],[("default", .none)]⟩=pure ():=ha;show wpAny _ X.A.in1 (Bind.checkArgs "max" sig ⟨[.ref a],[("default", .none)]⟩) _ _ s;rw[h2];exact B2 body
def afJ(K:Frag)(ta:TE):TE:=λσ H Q=>ta σ H λx H1=>∃(a:Addr)(is:List Int),x= .ref a/\gF K H1 a (WH V.int)/\Q (NP is.max?) H1
theorem ajG (K) {e} {ta} {p pos kp cp} {j} (hc:X.calm=true) (hg:Gl X "max") (hm:X.mg "max"=none) (he:PE X e ta) (hs:starEach [e] X.env=[(false,eval e X.env)]:=by rfl) (hK:X.K=K:=by rfl):
  PE X (.Call (.Name "max" p) [e] [⟨some "default", .Constant .none j cp,kp⟩] pos) (afJ K ta):=by
 subst hK;intro pins s σ H Q I h;refine wpAny_Call_Name_kw (X4 I hg hm (PyProof.Rows.Boot.«max»));rw[hs];refine callWith_builtin_kwB (first:=[]) rfl rfl (aqO ?_);refine Calls.spliced_cons ?_;show wpAny _ _ (eval e X.env) _ _ s;refine cU Fj λv s1 ⟨x,H1,I1,r1,q1⟩=>NM ?_
 obtain⟨a,is,rfl,hq,q⟩:=q1;cases r1;refine kws_cons ?_;refine Constant_none ?_;refine kws_nil ?_;exact ana hc I1 hq q
def wc:List V->List V->Bool
 |[],[]=>true
 |x::xs,y::ys=>xB x y&&wc xs ys
 | _,_=>false
theorem oW:∀(xs ys:List V),((B5 (min xs.length ys.length)).all (λj=>qN (Zl j))&&xs.length==ys.length)=wc xs ys
 |[],[]=>rfl
 |[],y::ys=>by simp[wc]
 |x::xs,[]=>by simp[wc]
 |x::xs,y::ys=>by
  have ih:=oW xs ys;simp only[wc];rw[<-ih];have e:min (x::xs).length (y::ys).length=min xs.length ys.length+1:=by simp[Nat.succ_min_succ]
  rw[e,List.range_succ_eq_map,List.all_cons,List.all_map];simp only[List.getD_cons_zero,Function.comp_def,List.getD_cons_succ,List.length_cons,Bool.and_assoc]
  congr 2
  simp
theorem abf{its dZ}(r:Vals xs its)(r2:Vals ys dZ)(f1:xs.all s_=true)(f2:ys.all s_=true):
  ∀j (h1:j<its.toArray.size) (h2:j<dZ.toArray.size),SeqAt.EqAt A s its.toArray[j] dZ.toArray[j] ((λj=>qN (Zl j)) j):=by
 refine Cc r r2 λj x y hx hy=> .inl ⟨art f1 x (B7 hx),art f2 y (B7 hy),?_⟩
 simp[List.getD_eq_getElem?_getD,hx,hy]
open Classical in
def oX(P:Program)(w:World)(K:Frag)(mg:Str->Option Value)(base:Heap)(cm:Bool)(k:Nat)(x:Str)(ps:List Str)(l_:List V)(sp:Sp):Prop:=
 ∃f fd ds,aZ P w K mg base (AU P) cm k f fd ps sp/\mg x=some (.ref f)/\keepIn K (.ref f)=true/\Binds K fd ps ds/\Vals l_ ds
theorem akx{cm}{k}{x}{ps}{l_}{sp}{E}{e}{es}{t}{p pos}(D:oX X.prog X.w X.K X.mg X.base cm k x ps l_ sp)(hr:e_ cm k X.A)(hx:Passes GQ X E)(ha:PA X (e::es) t)(hg:Gl X x:=by rfl)(vZ:(x==("__debug__":Str))=false:=by decide)
  (he:starEach (e::es) X.env=(false,eval e X.env)::starEach es X.env:=by rfl) (rg:(EB pos).any (·.1)=false:=by rfl):PE X (.Call (.Name x p) (e::es) [] pos) (GJ sp l_ E t):=by
 obtain⟨f,fd,ds,ok,hm,hk,hb,hd⟩:=D;exact wU hd
end
theorem rL{K}{a}{xs:List V}{ls}{js}{g}{tt}{te}{σ:St}{H1}{D}{Q}(Pv:Nat->List V->St->Hp->Prop)
  (h0:Pv 0 [] (G_ σ) (Gr H1 D)) (hl:∀i ys σ H,i<=xs.length->Pv i ys σ H->gF K H a xs)
  (hs:∀i x T ys σ H,xs[i]?=some x->Pv i ys σ H->H T=none->g (.ref T) σ (sG T) λf6 H3=>tt f6 H3 λb H4=>if b=true then te f6 H4 λy H5=>H5 D=some (.lst ys)/\ys.length<sizeLine/\Pv (i+1) (ys++[y]) f6 J0 else Pv (i+1) ys f6 H4)
  (hd:∀ys σ H,Pv xs.length ys σ H->Q (.ref D) H):
  tf (Pq K a) ls js g tt te σ H1 D Q:=
 nF (n:=xs.length) Pv h0 (λi ys σ H hi p=>⟨xs,xs[i],RZ p,by simp[hi]⟩) (λys σ H p=>⟨xs,VZ p,Nat.le_refl _⟩)
  (λi ys σ H x H2 hi p y=>by
   obtain⟨T,z,rfl,hT,rfl,hy⟩:=y;exact hs i z T ys σ H (hy xs (RZ p)) p hT) hd
end L2
namespace QF
open PySem L2
def fD(S:Int->Prop):Option Int->Prop
 |none=>∀v,¬S v
 |some m=>S m/\∀v,S v->v<=m
theorem fD.iff{a}(ha:fD S a)(h:∀v,S v↔T v):fD T a:=by
 cases a with
 |none=>exact λv hv=>ha v ((h v).mpr hv)
 |some m=>exact⟨(h m).mp ha.1,λv hv=>ha.2 v ((h v).mpr hv)⟩
def bL:Option Int->Int->Option Int
 |none,_=>none
 |some v,p=>some (v-p)
theorem fD.less{a}(ha:fD S a) (p):fD (λv=>∃u,S u/\v=u-p) (bL a p):=by
 cases a with
 |none=>exact λv ⟨u,hu,_⟩=>ha u hu
 |some m=>
  refine⟨⟨m,ha.1,rfl⟩,?_⟩;rintro v ⟨u,hu,rfl⟩;have:=ha.2 u hu
  lia
def qj(l:List (Gk Int)):Option Int:=(qG id).max?
theorem lH (l):fD (λv=>some v∈l) (qj l):=by
 have key:∀v,v∈l.filterMap id↔some v∈l:=λv=>by
  rw[List.mem_filterMap];exact⟨λ⟨o,ho,eo⟩=>by have eo:o=some v:=eo;rw[eo]at ho;exact ho,λh=>⟨some v,h,rfl⟩⟩
 unfold qj;cases e:(qG id).max? with
 |none=>
  rw[List.max?_eq_none_iff]at e;intro v hv;have:=(key v).mpr hv;rw[e]at this;cases this
 |some m=>
  rw[List.max?_eq_some_iff]at e;exact⟨(key m).mp e.1,λv hv=>e.2 v ((key v).mpr hv)⟩
theorem fD.X3{a}(ha:fD S a)(h1:∀v,S v->T v)(h2:∀v,T v->∃u,S u/\v<=u):fD T a:=by
 cases a with
 |none=>
  intro v hv;obtain⟨u,hu,_⟩:=h2 v hv;exact ha u hu
 |some m=>
  refine⟨h1 m ha.1,λv hv=>?_⟩;obtain⟨u,hu,hle⟩:=h2 v hv;have:=ha.2 u hu
  lia
theorem aua{S1 S2 S3}{a b:Option Int}(h1:fD S1 a)(h2:fD S2 b)(h3:fD S3 c):fD (λv=>S1 v∨S2 v∨S3 v) (qj [a,b,c]):=by
 refine(lH [a,b,c]).X3 axg (λv hv=>?_)
 ·simp only[List.mem_cons,List.not_mem_nil,or_false]at hv;rcases hv with e|e|e
  ·rw[<-e]at h1;exact .inl h1.1
  ·rw[<-e]at h2;exact .inr (.inl h2.1)
  ·rw[<-e]at h3;exact .inr (.inr h3.1)
 ·have one:∀{S:Int->Prop}{o:Option Int},fD S o->S v->o∈[a,b,c]->∃u,some u∈[a,b,c]/\v<=u:=λ{S o} hm hs ho=>by
   cases o with
   |none=>exact BO hs (hm v)
   |some m=>exact⟨m,ho,hm.2 v hs⟩
  rcases hv with hs|hs|hs
  ·exact one h1 hs A9
  ·exact one h2 hs A9
  ·exact one h3 hs A9
def kU(ps:List Pr):Pr:=Av (ps.length-1)
def wW(c:Case)(ps:List Pr):Int:=uB c
def qk(c:Case)(shut:List Pr)(ps:List Pr):Prop:=ma c ps=true/\∀p∈ps,p∉shut
def nK(c:Case)(shut:List Pr)(p:Pr):Option Int:=if p∈shut then none else c.pw p
theorem oY{p}:kU (ps++[p])=p:=by
 unfold kU;rw[List.length_append];exact uf
theorem adT{ps}{p}:∀{k:Nat},k<ps.length->dW c (ps++[p]) k=dW c ps k
 |0,h=>by simp only[dW];rw[iB h]
 |k+1,h=>by simp only[dW];rw[iB h,iB (by lia:k<ps.length),adT (by lia:k<ps.length)]
theorem akd{c}{p}(h:c.pw p=some w):wW c [p]=w:=by
 simp[wW,dW,pr,h]
theorem ahK{c}{p}(ed:ps≠[])(h:c.pw p=some w):wW c (ps++[p])=w+wW c ps-c.gap (kU ps) p:=by
 have hp:0<ps.length:=Y3 ed;obtain⟨k,hk⟩:∃k,ps.length=k+1:=⟨ps.length-1,by lia⟩
 have e1:(ps++[p]).length-1=k+1:=by rw[List.length_append];simp;lia
 unfold wW kU;rw[e1];have e2:pr (ps++[p]) (k+1)=p:=by rw[<-hk];exact uf
 simp only[dW,e2,h,Option.getD_some];rw[iB (by lia:k<ps.length),adT (by lia:k<ps.length),hk];rfl
theorem qk.one{p}(h:nK c shut p=some w):qk c shut [p]:=by
 unfold nK at h;split at h
 ·cases h
 ·rename_i hs
  refine⟨nJ A9 λk hk=>?_,λq hq=>?_⟩
  ·have:k=0:=by simp at hk;exact hk
   subst this;simp[dR,pr,h]
  ·have:q=p:=by simpa using hq
   rw[this];exact hs
theorem qk.snoc{p}(o:qk c shut ps)(h:nK c shut p=some w)(st:stepOk (kU ps) p=true):qk c shut (ps++[p]):=by
 obtain⟨ed,hg⟩:=lG o.1;unfold nK at h;split at h
 ·cases h
 ·rename_i hs
  refine⟨nJ A9 ?_,λq hq=>?_⟩
  ·rw[List.length_append];exact aul hg (by rw[h];rfl) (.inr st)
  ·rcases List.mem_append.mp hq with hq|hq
   ·exact o.2 q hq
   ·have:q=p:=by simpa using hq
    rw[this];exact hs
theorem ads{ps}{p}(h:k<ps.length):dR c (ps++[p]) k=dR c ps k:=by
 simp only[dR];rw[iB h,iB (by lia:k-1<ps.length)]
theorem qk.split(o:qk c shut ps):∃qs,ps=qs++[kU ps]/\(∃w,nK c shut (kU ps)=some w)/\(qs=[]∨(qk c shut qs/\stepOk (kU qs) (kU ps)=true)):=by
 obtain⟨ed,hg⟩:=lG o.1;obtain⟨qs,p,rfl⟩:∃qs p,ps=qs++[p]:=⟨ps.dropLast,N5 ed,(JT ed).symm⟩
 rw[oY];have gl:=hg qs.length A9;simp only[dR,uf,Bool.and_eq_true]at gl;refine⟨qs,rfl,?_,?_⟩
 ·obtain⟨w,hw⟩:=Option.isSome_iff_exists.mp gl.1;have:=o.2 p A9;exact⟨w,by simp[nK,this,hw]⟩
 ·by_cases e:qs=[]
  ·exact .inl e
  ·have hp:0<qs.length:=List.length_pos_iff.mpr e;refine .inr ⟨⟨nJ e λk hk=>?_,λq hq=>o.2 q (CW hq)⟩,?_⟩
   ·have:=hg k (by simp;lia);rwa[ads hk]at this
   ·have g2:=gl.2;simp only[Bool.or_eq_true,decide_eq_true_eq]at g2;rcases g2 with g2|g2
    ·lia
    ·rw[iB (by lia:qs.length-1<qs.length)]at g2;exact g2
def Kq:Option Int->Option Int->Option Int
 |none,_=>none
 |some w,none=>some w
 |some w,some b=>if b<0 then some w else some (w+b)
def Bq(f:Nat->Nat->Option Int)(o p:Int):Nat->Nat->Option Int
 |0,_=>none
 | _+1,0=>none
 |i+1,j+1=>qj [sX (Dv j),KI o,QT p]
termination_by i j=>(i,j)
def dh(f:Nat->Nat->Option Int)(o p:Int)(i j:Nat):Option Int:=sX (Dv j)
def dU(c:Case)(shut:List Pr)(i j:Nat):Option Int:=nK c shut ((i:Int),(j:Int))
theorem aax{q p}:stepOk q p=true↔q.1<p.1/\q.2<p.2:=by simp[stepOk]
theorem afM (o):NP o=bu o:=by cases o<;>rfl
def gQ(H:Hp)(vs:List V)(L:List (List Pr)):Prop:=vs.length=L.length/\∀(k:Nat)(ps:List Pr),L[k]?=some ps->∃a us,vs[k]?=some (C_ a)/\H a=some (.lst us)/\gw H us ps
def ary(l:Addr)(vs:List V):Prop:=∀k:Nat,vs[k]?≠some (C_ l)
theorem gQ.nil:gQ H [] []:=⟨rfl,λk ps e=>by simp at e⟩
theorem gQ.same{L}(w:gQ H vs L)(s:av H H'):gQ H' vs L:=⟨w.1,λk ps e=>let ⟨a,us,h1,h2,h3⟩:=w.2 k ps e;⟨a,us,h1,De h2,h3.same s⟩⟩
theorem gQ.put{L}(w:gQ H vs L)(n:ary l vs)(h:H l=some (.lst zs)):gQ (Ea l o) vs L:=⟨w.1,λk ps e=>by
 obtain⟨a,us,h1,h2,h3⟩:=w.2 k ps e;refine⟨a,us,h1,?_,h3.cT (Q0 h)⟩;rw[aq (λz=>n k (by rw[h1,z]))];exact h2⟩
theorem gQ.append{ws:List V}{L:List (List Pr)}(a:gQ H vs L)(b:gQ H ws M):gQ H (vs++ws) (L++M):=by
 refine⟨by simp[a.1,b.1],λi p e=>?_⟩;by_cases h:i<L.length
 ·rw[Bi h]at e;obtain⟨x,us,h1,h2⟩:=a.2 i p e;exact⟨x,us,by rw[Bi (by rw[a.1];exact h)];exact h1,h2⟩
 ·rw[Br A3]at e;obtain⟨x,us,h1,h2⟩:=b.2 _ p e;exact⟨x,us,by rw[Br (by rw[a.1];lia),a.1];exact h1,h2⟩
theorem gQ.one{a}(h:H a=some (.lst us))(P:gw H us ps):gQ H [.ref a] [ps]:=by
 refine⟨rfl,λi q e=>?_⟩
 match i,e with
 |0,e=>cases e;exact⟨a,us,rfl,h,P⟩
 |i+1,e=>simp at e
def cO(m:Nat)(f:Nat->Option Int):List V:=(B5 m).map λj=>bu (f j)
theorem bM (m) (f):(EJ f).length=m:=by simp[cO]
theorem bN(h:j<m):(EJ f)[j]?=some (bu (f j)):=by simp[cO,h]
theorem nM (m) (f):cO (m+1) f=cO m f++[bu (f m)]:=by simp[cO,List.range_succ]
structure fE(H:Hp)(as:List Addr)(f:Nat->Nat->Option Int)(n m:Nat):Prop where
 len:as.length=n
 row:∀(i:Nat)(a:Addr),as[i]?=some a->H a=some (.lst (EJ (f i)))
theorem fE.same(t:fE H as f n m)(s:av H H'):fE H' as f n m:=⟨t.len,λi a e=>De (t.row i a e)⟩
theorem fE.at(t:fE H as f n m)(h:i<n):∃a,as[i]?=some a/\(EH V.ref)[i]?=some (.ref a)/\H a=some (.lst (EJ (f i))):=by
 have hi:i<as.length:=by rw[t.len];exact h
 refine⟨as[i],by simp[hi],by simp[hi],t.row i _ (by simp[hi])⟩
def Tab(H H':Hp)(e:Addr)(f:Nat->Nat->Option Int)(n m:Nat):Prop:=∃as:List Addr,H' e=some (.lst Dt)/\H e=none/\fE H' as f n m/\∀a∈as,H a=none
structure DQ(K:W.Frag)(C:Addr):Prop where
 cl:x9 K C
 out:cq K C "out"
 into:cq K C "into"
 i6:cq K C "ending"
 ka:cq K C "brought"
def ig(o p:Int)(e b:Addr):List (Str×V):=[("out", .int o),("into", .int p),("ending", .ref e),("brought", .ref b)]
theorem adV(o p:_)(e b:_):(Ft p).lookup ("out":Str)=some (Io o):=by kernel_rfl
theorem Hz(o p:_)(e b:_):(Ft p).lookup ("into":Str)=some (Io p):=by kernel_rfl
theorem abQ(o p:_)(e b:_):(Ft p).lookup ("ending":Str)=some (C_ e):=by kernel_rfl
theorem aje(o p:_)(e b:_):(Ft p).lookup ("brought":Str)=some (C_ b):=by kernel_rfl
theorem auw(o p:_)(e b:_):(Ft p).lookup ("brought_behind":Str)=none:=by kernel_rfl
theorem aoF(o p:_)(e b:_):bE "brought" (.ref b) (bE "ending" (.ref e) (bE "into" (.int p) (bE "out" (.int o) [])))=ig o p e b:=by kernel_rfl
def tJ(f g:Nat->Option Int)(o p:Int):Nat->Option Int
 |0=>none
 |j+1=>qj [f j,bL (g (j+1)) o,bL (pF f j) p]
theorem acq (f) (o p:_) (i):∀j,tJ QV (Bq f o p i) o p j=Bq f o p (i+1) j
 |0=>by unfold tJ Bq;rfl
 |j+1=>by
  rw[tJ,Bq,acq f o p i j];rfl
theorem ji (f) (o p:_) (j):Bq f o p 0 j=none:=by unfold Bq;rfl
inductive mP(vs:List V)(H:Hp)(Q:VK)(u3:XK):Prop
 |mk (a) (os) (_:vs=[.ref a]) (_:H a=some (.lst (os.map bu))) (_:os.length<=1000) (_:∀H',av H H'->Q (bu (qj os)) H'):mP vs H Q u3
inductive yC(vs:List V)(H:Hp)(Q:VK)(u3:XK):Prop
 |mk (o) (p) (_:vs=[bu o, .int p]) (_:Q (bu (bL o p)) H):yC vs H Q u3
inductive Ce(vs:List V)(H:Hp)(Q:VK)(u3:XK):Prop
 |mk (w b:_) (_:vs=[bu w,bu b]) (_:Q (bu (Kq w b)) H):Ce vs H Q u3
inductive rM(C:Addr)(vs:List V)(H:Hp)(Q:VK)(u3:XK):Prop
 |mk (x e a dx te tb:_) (o p:_) (m) (f g:_) (_:vs=[.ref x, .ref e, .ref a]) (_:H x=some (.ins C dx (ig o p te tb))) (_:H e=some (.lst (EJ f))) (_:H a=some (.lst (JZ g))) (_:m<=1000) (_:∀H' r,av H H'->H r=none->H' r=some (.lst (JZ (tJ f g o p)))->Q (.ref r) H'):rM C vs H Q u3
def Cf(H:Hp)(v:V)(shut:List Pr):Prop:=(v= .de/\shut=[])∨∃l us,v= .ref l/\H l=some (.lst us)/\gw H us shut
def bf(p:Pr):List Key:=[.inl p.1, .inl p.2]
def oH(kvs:List (List Key×V))(shut:List Pr):Prop:=∀p:Pr,(M7 R0).isSome=decide (p∈shut)
inductive yD(vs:List V)(H:Hp)(Q:VK)(u3:XK):Prop
 |mk (v) (shut) (_:vs=[v]) (_:Cf H v shut) (_:shut.length<=1000) (_:∀H' d kvs,av H H'->H' d=some (.dT kvs)->oH kvs shut->Q (.ref d) H'):yD vs H Q u3
inductive jj(CT:Addr)(F:Case->List Pr->Nat->Nat->Option Int)(vs:List V)(H:Hp)(Q:VK)(u3:XK):Prop
 |mk (f g t:_) (v) (c) (shut) (_:vs=[.ref f, .ref g, .ref t,v]) (_:H f=some (.lst Vh)) (_:H g=some (.lst SY)) (_:uI H CT t c) (_:Cf H v shut) (_:shut.length<=1000) (_:c.xs.length<=1000) (_:c.ys.length<=1000) (_:∀H' e,av H H'->Tab H H' e (F c shut) c.xs.length c.ys.length->Q (.ref e) H'):jj CT F vs H Q u3
def n9(c:Case)(shut:List Pr):Nat->Nat->Option Int:=VH K5
theorem gw.last(P:gw H xs ps)(ed:ps≠[]):∃t,uc xs (-1)=some (.ref t)/\H t=some (.tup [.int (kU ps).1, .int (kU ps).2]):=by
 have hp:0<ps.length:=Y3 ed;have hl:=P.1;obtain⟨t,h1,h2⟩:=P.NN (k:=ps.length-1) (by lia);refine⟨t,?_,h2⟩;have e:xs=xs.take (ps.length-1)++[C_ t]:=by
  apply List.ext_getElem?;intro n;by_cases hn:n<ps.length-1
  ·rw[Bi (by rw[List.length_take];lia),List.getElem?_take,A7 hn]
  ·rw[Br (by rw[List.length_take];lia),List.length_take];by_cases zT:n=ps.length-1
   ·subst zT;rw[h1];have:ps.length-1-min (ps.length-1) xs.length=0:=by lia
    rw[this];rfl
   ·rw[FI A3,FI (by simp;lia)]
 rw[e];exact aby _ _
theorem DS(p q:_):wc JK (kM q)=decide (p=q):=by
 simp only[kM,wc,xB,Bool.and_true];rw[Bool.eq_iff_iff];simp[Prod.ext_iff]
theorem avW:(EJ f).set j (bu u)=cO m (λk=>if k=j then u else f k):=by
 apply List.ext_getElem?;intro k;by_cases hk:k<m
 ·rw[bN hk];by_cases e:j=k
  ·subst e;rw[jc (by rw[bM];exact hk)];simp
  ·rw[sf e,bN hk];have:¬k=j:=λz=>e z.symm
   simp[this]
 ·rw[FI (by rw[List.length_set,bM];lia),FI (by rw[bM];lia)]
end QF
namespace L2
open PySem PySem.Spec PyProof.Rows PySem.W PySem.Calls
section
variable{X:Cx}{tg:Expr}
end
section
variable{X:Cx}
end
section
variable{X:Cx}
end
end L2
namespace QF
open PySem L2
def aub(fs:List Form)(x t:Str):Bool:=decide (x=t)||fs.any λf=>(decide (f.1=x)&&decide (f.2.1=t))||(decide (f.1=t)&&decide (f.2.1=x))
def ajd(fs:List Form)(t:Str):List Str:=[t]++(fs.filter λf=>decide (f.1=t)).map (·.2.1)++(fs.filter λf=>decide (f.2.1=t)).map (·.1)
def abn(p:Nat->Bool):Nat->Int
 |0=> -1
 |n+1=>if p n then(n:Int)else abn p n
structure NS where
 ws:List Str
 ts:List Str
 fs:List Form
 span:Nat
def NS.p(c:NS)(t:Str)(i:Nat):Bool:=match c.ws[i]? with
 |some x=>aub c.fs x t
 |none=>false
def NS.atQ(c:NS)(n:Nat):List Int:=c.ts.map λt=>abn (c.p t) n
def NS.low(c:NS)(n:Nat):Int:=((c.atQ n).min?).getD (-1)
def NS.at_(c:NS)(h:Nat):Option Pr:=if c.low h<c.low (h+1)/\(h:Int)-c.low (h+1)<c.span then some (c.low (h+1),(h:Int))else none
def NS.told(c:NS)(k:Nat):List Pr:=(B5 k).filterMap c.at_
def NS.holds(c:NS)(l h:Nat):Bool:=c.ts.all λt=>(((c.ws.map λx=>decide (x∈ajd c.fs t)).drop l).take (h-l)).any id
def NS.ok(c:NS)(l h:Nat):Bool:=c.holds l (h+1)&&!(c.holds (l+1) (h+1))&&!(c.holds l h)
def NS.row(c:NS)(l k:Nat):List Pr:=(B5 k).filterMap λd=>if c.ok l (l+d)=true then some ((l:Int),((l+d:Nat):Int))else none
def NS.due(c:NS)(i:Nat):List Pr:=(B5 i).flatMap λl=>c.row l (min c.ws.length (l+c.span)-l)
end QF
namespace L2
open PySem PySem.Spec PyProof.Rows PySem.W PySem.Calls
theorem ahy{K:Frag}(a it:_) (n):Turn P w K tg (⟨λi H=>∃xs x,gF K H a xs/\xs.length=n/\xs.reverse[i]?=some x,λi H x H'=>H'=H/\∀xs,gF K H a xs->xs.reverse[i]?=some x,λi H=>∃xs,gF K H a xs/\xs.length=n/\xs.length=i⟩) [it] it (λi h=>h.IsRevIter it a ((n:Int)-1-(i:Int))) where
 mem:=AA
 obj:=λi h st b hb=>by
  have e:b=it:=by simpa using hb
  subst e;obtain⟨o,e,c,d⟩:=st;exact⟨o,e,λv z=>by rw[d]at z;cases z⟩
 keep:=λi h h' st k=>st.at λo e=>k it (AA) o e
 item:=by
  intro X hP hw hK hc i pins s σ H E Iv hf st hg;subst hP hw hK;obtain⟨xs,x,hq,hn,hx⟩:=hg;obtain⟨its,rv,p,hz⟩:=Iv.list hq;have hi:i<xs.length:=by simpa using(AM hx).1
  have tw:=hx;rw[Km hi]at hx;obtain⟨u,hu,ru⟩:=rv.get hx;obtain⟨f0,f1,f2,f3,f4,f5⟩:=FW it;have e1:((n:Int)-1-(i:Int))=((xs.length-1-i:Nat):Int):=by lia
  have e2:((xs.length-1-i:Nat):Int)-1=(n:Int)-1-((i+1:Nat):Int):=by lia
  rw[e1]at st;refine wpAny_pyNext_rev_item st p.isList (x:=u) (by simpa using hu) λh' aW sb=>?_
  rw[e2]at aW;have I1:Inv X pins σ H {s with heap:=h'}:=akI (λb o hb e=>(Pa b).trans e);obtain⟨o,e,c,d⟩:=id aW;exact⟨u,rfl,xq (s:={s with heap:=h'}) e c d (AN) ⟨x,H,I1,ru,⟨rfl,λys hy=>by rw[Iv.um hy hq];exact tw⟩,aW,λb hb=>(FK b).1⟩⟩
 done:=by
  intro X hP hw hK hc i pins s σ H E Iv hf st hg;subst hP hw hK;obtain⟨xs,hq,hn,hx⟩:=hg;obtain⟨f0,f1,f2,f3,f4,f5⟩:=FW it;have e1:((n:Int)-1-(i:Int))=-1:=by lia
  rw[e1]at st;exact wpAny_pyNext_rev_end (Iv.ok.hd hc) st λh' eb=>⟨rfl,akI (λb o hb e=>ajH e)⟩
 self:=λ_ _ _ _ _ st h=>wpAny_pyIter_revIter st h
section
variable{X:Cx}{tg:Expr}
def alm(K:Frag)(a:Addr)(n:Nat):It:=⟨λi H=>∃xs x,gF K H a xs/\xs.length=n/\xs.reverse[i]?=some x,λi H x H'=>H'=H/\∀xs,gF K H a xs->xs.reverse[i]?=some x,λi H=>∃xs,gF K H a xs/\xs.length=n/\xs.length=i⟩
def RF(K:Frag)(ta:TA):TI:=λσ H R=>ta σ H λvs H1=>∃a xs,vs=[.ref a]/\gF K H1 a xs/\R avM H1
theorem adU:bootBuiltins "reversed"=some (.type "reversed"):=by decide+kernel
theorem aws{a}{p:Pos}(hg:Gl X "reversed")(hm:X.mg "reversed"=none)(ha:PA X [a] ta)(hs:starEach [a] X.env=[(false,eval a X.env)]:=by rfl):
  PI X tg (.Call (.Name "reversed" p) [a] [] pos) (RF X.K ta):=by
 intro pins s σ H R Iv h;refine Call_ (jE Iv hg hm adU (PyProof.Rows.callWith_type1 (cU (bR s H Iv h) λus s1 ⟨vs,H1,I1,r1,q1⟩=>?_) hs rfl));obtain⟨l,xs,e,hq,q⟩:=q1;subst e;cases r1 with
 |cons r rr=>
  cases rr;cases r;obtain⟨its,rv,p,hz⟩:=I1.list hq;have hl:=rv.length;refine call_reversed_list p.isList ?_;have it:(s1.heap.push (revObj l ((its.toArray.size:Int)-1))).IsRevIter s1.heap.objs.size l ((xs.length:Int)-1-((0:Nat):Int)):=⟨_,Heap.get?_push_size _ rfl,rfl,by
   have e:((its.toArray.size:Int)-1)=(xs.length:Int)-1-((0:Nat):Int):=by simp;lia
   rw[e];rfl⟩
  refine wpAny_pyIter_revIter it ?_;refine⟨_,[s1.heap.objs.size],_,_,H1,rfl,zP (λb o e=>BL e),ahy l _ xs.length,it,λb hb=>?_,q⟩;have:b=s1.heap.objs.size:=by simpa using hb
  exact I1.ur awR (ZH awR)
end
theorem arZ{X}{tg} (K) {a} {ta} {p pos} (hg:Gl X "reversed") (hm:X.mg "reversed"=none) (ha:PA X [a] ta) (hs:starEach [a] X.env=[(false,eval a X.env)]:=by rfl) (h:X.K=K:=by rfl):
  PI X tg (.Call (.Name "reversed" p) [a] [] pos) (RF K ta):=h▸aws hg hm ha hs
theorem atH{K:Frag}{a}{xs}{ls}{σ}(Pv:Nat->List V->St->Hp->Prop)
  (h0:Pv 0 [] (G_ σ) (Gr H1 D)) (hl:∀i ys σ H,i<=xs.length->Pv i ys σ H->gF K H a xs)
  (hs:∀i x ys σ H,xs.reverse[i]?=some x->Pv i ys σ H->g x σ H λf6 H3=>tt f6 H3 λb H4=>if b=true then te f6 H4 λy H5=>H5 D=some (.lst ys)/\ys.length<sizeLine/\Pv (i+1) (ys++[y]) f6 J0 else Pv (i+1) ys f6 H4)
  (hd:∀ys σ H,Pv xs.length ys σ H->Q (.ref D) H):
  tf avM ls js g tt te σ H1 D Q:=
 nF (n:=xs.length) Pv h0 (λi ys σ H hi p=>⟨xs,xs.reverse[i]'(by simpa using hi),RZ p,rfl,by simp[hi]⟩) (λys σ H p=>⟨xs,VZ p,rfl,rfl⟩)
  (λi ys σ H x H2 hi p y=>by
   obtain⟨e,y⟩:=y;subst e;exact xX i x p) hd
theorem apP:typeLookup (.type "list_reverseiterator") "__len__"=pure none:=by rw[typeLookup_type,builtinLookup_eq_fast];kernel_rfl
theorem als:typeLookup (.type "list_reverseiterator") "__length_hint__"=pure (some (.builtin "list_reverseiterator.__length_hint__")):=by rw[typeLookup_type,builtinLookup_eq_fast];kernel_rfl
section
variable{pg:Program}{wd:World}{Ar:Around}{sh:Shared}{Rs:Result->Shared->Prop}{it:Addr}{fp wr:List Addr}{Gn:Array GenState->Array GenState->Prop}{n:Nat}{Pv:Nat->Value->Prop}{Sv:Nat->Shared->Prop}
theorem amO(Wk:WalksS pg wd Ar.in1 it fp wr Gn n Pv Sv)(ty:∀i s,Sv i s->s.TypeIs (.ref it) "list_reverseiterator") (L) (res) (c0) (Px:Sv 0 sh) (nL:L∉fp) (hI:it∈fp)
  (eL:sh.heap.get? L=some {cls:= .type "list",data:= .seq #[] c0})
  (fin:∀s' acf c',Moved (L::wr) Gn sh s'->s'.heap.get? L=some {cls:= .type "list",dict:=none,data:= .seq acf c',slots:=#[]}->ItemsOf Pv acf n->Rs (.ok (.ret res)) s') (hn:n<=sizeLine):
  wpAny qd Ar.in1 (Builtin.List.listExtendWith (.ref L) (.ref it) res)
   (λfn s'=>match fn with| .done f=>Rs (.ok f) s'| .again c'=>c'.quiet=true/\codeAny qd Ar c' Rs s') (λe s'=>Rs (.error e) s') sh:=by
 have nLI:L≠it:=λe=>nL (e▸hI)
 have h1:Builtin.List.listSameRef (.ref L) (.ref it)=false:=by simp[Builtin.List.listSameRef,nLI]
 unfold Builtin.List.listExtendWith;refine wpAny_bind (wpAny_typeOf (XI 0) ?_);rw[A6 (by rw[h1];decide)];refine wpAny_bind (Wk.self 0 _ _ _ Px ?_);refine wpAny_bind (IC ?_);unfold Builtin.List.listLengthHint;refine wpAny_bind (kr (XI 0) apP);show wpAny _ Ar.in1 (specialOf (Rr it) (D7 "__length_hint__")>>=_) _ _ _;refine wpAny_bind (kr (XI 0) als)
 (generalize V8:("list_reverseiterator.__length_hint__":String)=X5;(fail_if_success (clear V8 X5));wp_delta;rw[show splitId X5=some ("list_reverseiterator","__length_hint__")from by subst V8;decide+kernel];subst V8)
 refine wpAny_bind (wpAny_isInstance (b:=true) (XI 0) (by rw[isSubtype_type];kernel_rfl) ?_);refine wpAny_pure ?_;rw[if_neg EN];exact B2 ⟨Oz F.plain_extend_loop,codeAny_extend_loopS Wk hn _ nL _ n 0 _ _ _ rfl (Nat.zero_le _) Px eL (ItemsOf.nil Pv) fin⟩
end
section
variable{X:Cx}
theorem anF(hc:X.calm=true){a}(Iv:Inv X pins σ H s)(hq:gF X.K H a xs)(q:∀l,H l=none->Q (.ref l) (Υ l)):
  wpAny Ak X.A (call (.type "reversed") [.ref a]) (λv s1=>Sj (call (.type "list") [v]) (DR Q) s1) X.xe s:=by
 obtain⟨its,rv,p,hz⟩:=Iv.list hq;have hl:=rv.length;refine call_reversed_list p.isList ?_;have lt:a<s.heap.objs.size:=by obtain⟨o,e,_⟩:=p.isList;exact Bf e
 have ed:a≠s.heap.objs.size:=Dn lt;generalize hh:s.heap.push (revObj a ((its.toArray.size:Int)-1))=h1;have k1:∀b o,s.heap.get? b=some o->h1.get? b=some o:=λb o e=>by rw[<-hh];exact BL e
 have sz:h1.objs.size=s.heap.objs.size+1:=by rw[<-hh];exact Heap.size_push ..
 have it0:h1.IsRevIter s.heap.objs.size a ((its.toArray.size:Int)-1-((0:Nat):Int)):=⟨_,by rw[<-hh];exact Heap.get?_push_size _ rfl,rfl,by
  have e:((its.toArray.size:Int)-1)=(its.toArray.size:Int)-1-((0:Nat):Int):=by lia
  rw[<-e];rfl⟩
 have Wk:=(Walks.listRev (prog:=X.prog) (w:=X.w) (A:=X.A.in1.in1) (show X.A.in1.in1.handled=none from Iv.ok.hd hc) s.heap.objs.size a ed its.toArray).toS;have nS:h1.objs.size∉[s.heap.objs.size,a]:=λz=>by
  simp only[List.mem_cons,List.not_mem_nil,or_false]at z;rcases z with z|z
  ·rw[sz]at z;exact apW z
  ·rw[sz]at z;rw[<-z]at lt;exact KH tI
 refine callType_codes (Q₁:=λobj cf=>obj= .ref h1.objs.size/\cf={s with heap:=h1.push {cls:= .type "list",data:= .seq #[]}}) F.called_list (F.typeCall_list_1 _) F.entry_list_init (code_list_new _ ⟨rfl,rfl⟩) λobj s2 z2=>?_
 obtain⟨rfl,rfl⟩:=z2;have eL:(h1.push {cls:= .type "list",data:= .seq #[]}).get? h1.objs.size=some {cls:= .type "list",data:= .seq #[]}:=Heap.get?_push_size _ rfl;refine⟨⟨_,eL,rfl⟩,F.args_list_init_2 _ _,?_⟩;show wpAny _ X.A.in1.in1 (do let old<-Builtin.List.listItems (.ref h1.objs.size);Builtin.List.listUpdate (.ref h1.objs.size) (λ_=>#[]);letGo old.toList.reverse;Builtin.List.listExtendWith (.ref h1.objs.size) (.ref s.heap.objs.size) .none) _ _ _;refine wpAny_bind ?_;unfold Builtin.List.listItems;refine wpAny_bind (tP eL μ);show wpAny _ X.A.in1.in1 (updateSeq h1.objs.size (λ_=>#[])>>=_) _ _ _;refine wpAny_bind (wpAny_updateSeq eL rfl ?_);have eL2:=Heap.get?_update_self (GF (λ_=>(#[]:Array Value))) eL rfl;have k2:∀b o,b≠h1.objs.size->h1.get? b=some o->((h1.push {cls:= .type "list",data:= .seq #[]}).update h1.objs.size (GF (λ_=>(#[]:Array Value)))).get? b=some o:=λb o hb e=>(LX (Ay hb)).trans (BL e)
 refine wpAny_bind Z9;refine amO (Ar:=X.A.in1) Wk (λi s x=>x.2.1.typeIs) _ .none _ ⟨Nat.zero_le _,it0.at λo e=>k2 _ _ (λz=>nS (by rw[<-z];simp)) e,p.isList.at λo e=>k2 _ _ (λz=>nS (by rw[<-z];simp)) (k1 _ _ e)⟩ nS A9 eL2 (λs' acc c' mv eS ia=>?_) (by rw[List.size_toArray];lia);refine⟨rfl,?_⟩;have es:s'={s with heap:=s'.heap,toks:=s'.toks}:=by
  have g1:=mv.gens;have g2:=mv.drawn;have g3:=mv.os;obtain⟨hp,g,d,t,o⟩:=s';simp only at g1 g2 g3;rw[g1,g2,g3]
 have keep:∀b o,s.heap.get? b=some o->s'.heap.get? b=some o:=λb o e=>by
  have hb:=Bf e;refine mv.heap b o QK (k2 b o (λz=>by rw[z,sz]at hb;exact KH (oA hb)) (k1 b o e));simp only[List.mem_cons,List.not_mem_nil,or_false]at z;rcases z with z|z
  ·rw[z,sz]at hb;exact KH (oA hb)
  ·rw[z]at hb;exact KH hb
 have ea:acc.toList=its.reverse:=by
  refine List.ext_getElem? λj=>?_
  have hs:acc.size=its.length:=by have:=ia.1;simpa using this
  by_cases hj:j<its.length
  ·have e1:acc[j]?=some (acc[j]'(by lia)):=Array.getElem?_eq_getElem A3;have e2:=ia.2 j _ e1;rw[List.size_toArray,List.getElem?_toArray]at e2;rw[Km hj,e2,Array.getElem?_toList,e1]
  ·rw[FI (by rw[Array.length_toList];lia),FI (by simp;lia)]
 have ea2:acc=its.reverse.toArray:=by rw[<-ea]
 rw[es];have V9:s.heap.objs.size<=h1.objs.size:=by rw[sz];exact Nat.le_succ _
 rw[ea2]at eS;exact⟨.ref h1.objs.size,_,Iv.laid (t':=s'.toks) (o:= .lst xs.reverse) keep V9 ⟨by rw[List.length_reverse];exact hz,its.reverse,c',rv.reverse,eS⟩,rfl,E8 (Iv.cc.fresh V9)⟩
def aiP(K:Frag)(te:TE):TE:=λσ H Q=>te σ H λx H1=>∃a xs,x= .ref a/\gF K H1 a xs/\∀l,H1 l=none->Q (.ref l) (Ra l (.lst xs.reverse))
theorem anH (K) {e} {te} {p p2 pos Kx} (hc:X.calm=true) (hg:Gl X "list") (hm:X.mg "list"=none) (V_:Gl X "reversed") (E_:X.mg "reversed"=none) (he:PE X e te)
  (hs:starEach [.Call (.Name "reversed" p2) [e] [] Kx] X.env=[(false,eval (.Call (.Name "reversed" p2) [e] [] Kx) X.env)]:=by rfl) (By:starEach [e] X.env=[(false,eval e X.env)]:=by rfl) (hK:X.K=K:=by rfl):
  PE X (.Call (.Name "list" p) [.Call (.Name "reversed" p2) [e] [] Kx] [] pos) (aiP K te):=by
 subst hK;intro pins s σ H Q Iv h;refine wpAny_Call_Name_kw (X4 Iv hg hm (PyProof.Rows.Boot.«list»));refine PyProof.Rows.callWith_type1 ?_ hs rfl;rw[hs];show wpAny _ _ (spliced [(false,eval (.Call (.Name "reversed" p2) [e] [] Kx) X.env)]) _ _ s;refine Calls.spliced_cons ?_;refine wpAny_Call_Name_kw (X4 Iv V_ E_ adU);refine PyProof.Rows.callWith_type1 ?_ By rfl;rw[By];show wpAny _ _ (spliced [(false,eval e X.env)]) _ _ s;refine Calls.spliced_cons (cU (qe s H Iv h) λu s1 ⟨x,H1,I1,r1,q1⟩=>?_);refine Calls.spliced_nil ?_;obtain⟨a,xs,rfl,hq,q⟩:=q1;cases r1;refine wpAny_mono (anF hc I1 hq q) (λv s2 hv=>?_) λ_ _ z=>z
 exact NM hv
end
end L2
namespace QF
open PySem L2
def we(q p:Pr):Prop:=q.1<p.1/\q.2<p.2
def gp(o i:Int)(q p:Pr):Int:=o*(p.1-q.1-1)+i*(p.2-q.2-1)
structure Wy(g:Pr->Option Int)(ps:List Pr):Prop where
 ne:ps≠[]
 ok:∀p∈ps,(g p).isSome=true
 up:ps.Pairwise we
def vl(g:Pr->Option Int)(o i:Int):List Pr->Int
 |[]=>0
 |[p]=>(g p).getD 0
 |p::q::r=>(g p).getD 0-gp o i p q+vl g o i (q::r)
def j5(ps:List Pr):Pr:=ps.headD (0,0)
def lstP(ps:List Pr):Pr:=ps.getLastD (0,0)
theorem bT{p}:lstP (ps++[p])=p:=by simp[lstP]
theorem ql (g) (o i:_) (q) (bs):∀(as:List Pr),vl g o i (as++q::bs)=vl g o i (as++[q])+vl g o i (q::bs)-(g q).getD 0
 |[]=>by simp only[List.nil_append,vl];lia
 |[a]=>by
  simp only[List.cons_append,List.nil_append,vl]
  lia
 |a::b::r=>by
  have ih:=ql g o i q bs (b::r);simp only[List.cons_append]at ih⊢;simp only[vl];rw[ih]
  lia
theorem abt (g) (o i:_) (ed:ps≠[]) (p):vl g o i (ps++[p])=(g p).getD 0+vl g o i ps-gp o i (Aj ps) p:=by
 obtain⟨qs,q,rfl⟩:∃qs q,ps=qs++[q]:=⟨ps.dropLast,N5 ed,(JT ed).symm⟩
 rw[bT,List.append_assoc];have:=ql g o i q [p] qs;simp only[List.singleton_append]at this⊢;rw[this];simp only[vl]
 lia
theorem Wy.one{p}(h:(g p).isSome=true):Wy g [p]:=by
 refine⟨AA,λq hq=>?_,AA⟩;have e:q=p:=by simpa using hq
 rw[e];exact h
theorem nN{a b:Pr}(h1:we a b)(h2:we b c):we a c:=⟨Int.lt_trans h1.1 h2.1,Int.lt_trans h1.2 h2.2⟩
theorem pw_lst{ps}(h:ps.Pairwise we){q}(hq:q∈ps):q=lstP ps∨we q (Aj ps):=by
 have ed:ps≠[]:=λz=>by rw[z]at hq;cases hq
 obtain⟨qs,x,rfl⟩:∃qs x,ps=qs++[x]:=⟨ps.dropLast,N5 ed,(JT ed).symm⟩
 rw[bT];rcases List.mem_append.mp hq with hq|hq
 ·exact .inr ((Et h).2.2 q hq x A9)
 ·exact .inl (by simpa using hq)
theorem Wy.snoc{p}(w:Wy g ps)(h:(g p).isSome=true)(s:we (Aj ps) p):Wy g (ps++[p]):=by
 refine⟨AA,λq hq=>?_,FU ⟨w.up,AA,λa ha b hb=>?_⟩⟩
 ·rcases List.mem_append.mp hq with hq|hq
  ·exact Gv q hq
  ·have:q=p:=by simpa using hq
   rw[this];exact h
 ·have:b=p:=by simpa using hb
  rw[this];rcases pw_lst w.up ha with e|e
  ·rw[e];exact s
  ·exact nN e s
theorem Wy.split(w:Wy g ps):∃qs,ps=qs++[Aj ps]/\(∃v,g (Aj ps)=some v)/\(qs=[]∨(Wy g qs/\we (Aj qs) (Aj ps))):=by
 obtain⟨qs,x,rfl⟩:∃qs x,ps=qs++[x]:=⟨ps.dropLast,N5 w.ne,(JT w.ne).symm⟩
 rw[bT];refine⟨qs,rfl,Hj (w.ok x A9),?_⟩;by_cases e:qs=[]
 ·exact .inl e
 ·have h:=List.pairwise_append.mp w.up;refine .inr ⟨⟨e,λq hq=>Gv q (CW hq),h.1⟩,h.2.2 _ ?_ x A9⟩;obtain⟨rs,y,rfl⟩:∃rs y,qs=rs++[y]:=⟨qs.dropLast,qs.getLast e,(JT e).symm⟩
  rw[bT];simp
theorem dz(h:ps≠[]):lstP ps∈ps:=by
 obtain⟨rs,y,rfl⟩:∃rs y,ps=rs++[y]:=⟨ps.dropLast,N5 h,(JT h).symm⟩
 rw[bT];simp
def lf(f:Nat->Nat->Option Int)(p:Pr):Option Int:=if 0<=p.1/\0<=p.2 then f p.1.toNat p.2.toNat else none
theorem gy(f:Nat->Nat->Option Int)(i j:Nat):lf f ((i:Int),(j:Int))=f i j:=by simp[lf]
theorem qm{p}(h:(Hl p).isSome=true):∃i j:Nat,p=((i:Int),(j:Int)):=by
 unfold lf at h;split at h
 ·rename_i hh
  exact⟨p.1.toNat,p.2.toNat,Cd (by simp;lia) (by simp;lia)⟩
 ·cases h
def TQ(f:Nat->Nat->Option Int)(o p:Int)(i j:Nat)(v:Int):Prop:=∃ps,Wy Ab ps/\(Aj ps).1<(i:Int)/\(Aj ps).2<(j:Int)/\v=vl Ab o p ps-(o*((i:Int)-1-(Aj ps).1)+p*((j:Int)-1-(Aj ps).2))
def TU(f:Nat->Nat->Option Int)(o p:Int)(q:Pr)(v:Int):Prop:=∃ps,Wy Ab ps/\lstP ps=q/\v=vl Ab o p ps
theorem adQ{p:Int}{b}(h:fD xa b):fD (TU f o p ((i:Int),(j:Int))) (sX b):=by
 cases e:f i j with
 |none=>
  rintro v ⟨ps,w,el,rfl⟩;obtain⟨qs,_,⟨x,hx⟩,_⟩:=w.split;rw[el,gy,e]at hx;cases hx
 |some x=>
  have eg:lf f ((i:Int),(j:Int))=some x:=by rw[gy];exact e
  have Ci:∀ps,Wy Ab ps->lstP ps=((i:Int),(j:Int))->vl Ab o p ps=x∨∃v,TQ f o p i j v/\vl Ab o p ps=x+v:=λps w el=>by
   obtain⟨qs,eq,_,hq⟩:=w.split;rw[el]at eq hq;rcases hq with rfl|⟨wq,st⟩
   ·left
    rw[eq];simp[vl,eg]
   ·right
    refine⟨_,⟨qs,wq,st.1,st.2,rfl⟩,?_⟩;rw[eq,Kc wq.ne,eg];simp only[gp,Option.getD_some];have e1:(i:Int)-(Aj qs).1-1=(i:Int)-1-(Aj qs).1:=by lia
    have e2:(j:Int)-(Aj qs).2-1=(j:Int)-1-(Aj qs).2:=by lia
    rw[e1,e2]
    lia
  have alone:TU f o p ((i:Int),(j:Int)) x:=⟨[((i:Int),(j:Int))], .one (by rw[eg];rfl),rfl,by simp[vl,eg]⟩
  have more:∀v,TQ f o p i j v->TU f o p ((i:Int),(j:Int)) (x+v):=by
   rintro v ⟨ps,w,l1,l2,rfl⟩;refine⟨ps++[((i:Int),(j:Int))],w.snoc (by rw[eg];rfl) ⟨l1,l2⟩,bT,?_⟩;rw[Kc w.ne,eg];simp only[gp,Option.getD_some];have e1:(i:Int)-(Aj ps).1-1=(i:Int)-1-(Aj ps).1:=by lia
   have e2:(j:Int)-(Aj ps).2-1=(j:Int)-1-(Aj ps).2:=by lia
   rw[e1,e2]
   lia
  cases b with
  |none=>
   refine⟨alone,?_⟩;rintro v ⟨ps,w,el,rfl⟩;rcases Ci ps w el with h1|⟨u,hu,_⟩
   ·lia
   ·exact BO hu (h u)
  |some m=>
   simp only[Kq];split
   ·refine⟨alone,?_⟩;rintro v ⟨ps,w,el,rfl⟩;rcases Ci ps w el with h1|⟨u,hu,h2⟩
    ·lia
    ·have:=h.2 u hu
     lia
   ·refine⟨more m h.1,?_⟩;rintro v ⟨ps,w,el,rfl⟩;rcases Ci ps w el with h1|⟨u,hu,h2⟩
    ·lia
    ·have:=h.2 u hu
     lia
theorem abp(w:Wy Ab ps):0<=(Aj ps).1/\0<=(Aj ps).2:=by
 obtain⟨a,b,e⟩:=qm (w.ok _ (dz w.ne));rw[e];simp
theorem ahA (f) (o p:_):∀i j:Nat,fD xa (Dv j)
 |0,j=>by
  unfold Bq;rintro v ⟨ps,w,l1,_⟩;have:=abp w;simp at l1
  lia
 |i+1,0=>by
  unfold Bq;rintro v ⟨ps,w,_,l2,_⟩;have:=abp w;simp at l2
  lia
 |i+1,j+1=>by
  rw[Bq];refine(aua (adQ (Ko i j)) ((Ko i (j+1)).less o) ((Ko (i+1) j).less p)).iff λv=>?_
  constructor
  ·rintro(⟨ps,w,el,rfl⟩|⟨u,⟨ps,w,l1,l2,rfl⟩,rfl⟩|⟨u,⟨ps,w,l1,l2,rfl⟩,rfl⟩)
   ·refine⟨ps,w,by rw[el];simp;lia,by rw[el];simp;lia,?_⟩;rw[el];have e1:((i+1:Nat):Int)-1-(i:Int)=0:=by lia
    have e2:((j+1:Nat):Int)-1-(j:Int)=0:=by lia
    simp only[e1,e2,Int.mul_zero]
    lia
   ·refine⟨ps,w,by lia,by lia,?_⟩;have e1:((i+1:Nat):Int)-1-(Aj ps).1=((i:Int)-1-(Aj ps).1)+1:=by lia
    rw[e1,Int.mul_add]
    lia
   ·refine⟨ps,w,by lia,by lia,?_⟩;have e1:((j+1:Nat):Int)-1-(Aj ps).2=((j:Int)-1-(Aj ps).2)+1:=by lia
    rw[e1,Int.mul_add]
    lia
  ·rintro⟨ps,w,l1,l2,rfl⟩;by_cases h1:(Aj ps).1<(i:Int)
   ·right;left
    refine⟨_,⟨ps,w,h1,l2,rfl⟩,?_⟩;have e1:((i+1:Nat):Int)-1-(Aj ps).1=((i:Int)-1-(Aj ps).1)+1:=by lia
    rw[e1,Int.mul_add]
    lia
   ·by_cases h2:(Aj ps).2<(j:Int)
    ·right;right
     refine⟨_,⟨ps,w,l1,h2,rfl⟩,?_⟩;have e1:((j+1:Nat):Int)-1-(Aj ps).2=((j:Int)-1-(Aj ps).2)+1:=by lia
     rw[e1,Int.mul_add]
     lia
    ·left
     have a1:(Aj ps).1=(i:Int):=by lia
     have a2:(Aj ps).2=(j:Int):=by lia
     refine⟨ps,w,Cd a1 a2,?_⟩;have e1:((i+1:Nat):Int)-1-(Aj ps).1=0:=by lia
     have e2:((j+1:Nat):Int)-1-(Aj ps).2=0:=by lia
     simp only[e1,e2,Int.mul_zero]
     lia
termination_by i j=>(i,j)
theorem gz(f:Nat->Nat->Option Int)(o p:Int)(i j:Nat):fD (TU f o p ((i:Int),(j:Int))) (GG i j):=adQ (Ko i j)
def fr(f:Nat->Nat->Option Int)(n m:Nat)(a b:Nat):Option Int:=if a<n/\b<m then f (n-1-a) (m-1-b)else none
def AD(n m:Nat)(p:Pr):Pr:=((n:Int)-1-p.1,(m:Int)-1-p.2)
def vW(n m:Nat)(ps:List Pr):List Pr:=(ps.map (AD n m)).reverse
def yF(f:Nat->Nat->Option Int)(n m:Nat):Prop:=∀i j,(f i j).isSome=true->i<n/\j<m
theorem Cj(n m:_) (p):AD n m (Ik p)=p:=Cd (by show(n:Int)-1-((n:Int)-1-p.1)=p.1;lia) (by show(m:Int)-1-((m:Int)-1-p.2)=p.2;lia)
theorem amW(n m:_) (ps):vW n m (JG m)=ps:=by
 unfold vW;rw[List.map_reverse,List.reverse_reverse,List.map_map];have:AD n m∘AD n m=id:=by funext p;exact Cj n m p
 rw[this,List.map_id]
theorem HH:yF HE n m:=λi j h=>by
 unfold fr at h;split at h
 ·assumption
 ·cases h
theorem ach(t:yF f n m):fr HE n m=f:=by
 funext a b
 unfold fr;by_cases h:a<n/\b<m
 ·rw[A7 h,A7 A3,show n-1-(n-1-a)=a by lia,show m-1-(m-1-b)=b by lia]
 ·rw[A6 h];cases e:f a b with
  |none=>rfl
  |some v=>exact BO (t a b (by rw[e];rfl)) h
theorem HI(t:yF f n m) (p):lf HE (Ik p)=lf f p:=by
 by_cases h:(0<=p.1/\p.1<(n:Int))/\(0<=p.2/\p.2<(m:Int))
 ·obtain⟨a,ha⟩:=Int.eq_ofNat_of_zero_le h.1.1;obtain⟨b,hb⟩:=Ku h.2.1;have ep:p=((a:Int),(b:Int)):=Cd ha hb;have er:AD n m p=(((n-1-a:Nat):Int),((m-1-b:Nat):Int)):=Cd (by show(n:Int)-1-p.1=_;lia) (by show(m:Int)-1-p.2=_;lia);rw[er,ep,gy,gy];unfold fr;rw[A7 A3,show n-1-(n-1-a)=a by lia,show m-1-(m-1-b)=b by lia]
 ·have n1:lf f p=none:=by
   cases e:lf f p with
   |none=>rfl
   |some v=>
    obtain⟨a,b,rfl⟩:=qm (f:=f) (p:=p) (by rw[e];rfl);rw[gy]at e;have:=t a b (by rw[e];rfl);exact BO (by simp;lia) h
  rw[n1];cases e:lf HE (Ik p)with
  |none=>rfl
  |some v=>
   obtain⟨a,b,er⟩:=qm (f:=jV f) (p:=Ik p) (by rw[e];rfl);rw[er,gy]at e;have:=HH a b (by rw[e];rfl);have h1:(n:Int)-1-p.1=(a:Int):=Eu Prod.fst er;have h2:(m:Int)-1-p.2=(b:Int):=Eu Prod.snd er;exact BO A3 h
theorem Ck(t:yF f n m)(o i:_):∀ps:List Pr,vl (lf HE) o i (JG m)=vl Ab o i ps
 |[]=>rfl
 |[p]=>by simp[vW,vl,HI t]
 |p::q::r=>by
  have ih:=Ck t o i (q::r);have e:vW n m (p::q::r)=vW n m (q::r)++[Ik p]:=by simp[vW]
  have e2:vW n m (q::r)=vW n m r++[Ik q]:=by simp[vW]
  have ed:vW n m (q::r)≠[]:=by rw[e2];simp
  rw[e,Kc ed,ih,HI t];simp only[vl];rw[e2,bT];have eg:gp o i (Ik q) (Ik p)=gp o i p q:=by
   simp only[gp,AD];have e1:(n:Int)-1-p.1-((n:Int)-1-q.1)-1=q.1-p.1-1:=by lia
   have e2:(m:Int)-1-p.2-((m:Int)-1-q.2)-1=q.2-p.2-1:=by lia
   rw[e1,e2]
  rw[eg]
  lia
theorem Wy.rev(t:yF f n m)(w:Wy Ab ps):Wy (lf HE) (JG m):=by
 refine⟨λz=>w.ne ?_,λp hp=>?_,?_⟩
 ·have:=congrArg List.length z;simp[vW]at this;exact this
 ·obtain⟨q,hq,rfl⟩:=List.mem_map.mp (List.mem_reverse.mp hp);rw[HI t];exact Gv q hq
 ·unfold vW;rw[List.pairwise_reverse,List.pairwise_map];refine w.up.imp λ{a b} h=>⟨?_,?_⟩
  ·show(n:Int)-1-b.1<(n:Int)-1-a.1;have:=h.1;lia
  ·show(m:Int)-1-b.2<(m:Int)-1-a.2;have:=h.2;lia
theorem DU(h:ps≠[]):lstP (JG m)=AD n m (j5 ps):=by
 cases ps with
 |nil=>exact EV h
 |cons p r=>simp[vW,lstP,j5]
theorem akm(h:ps≠[]):j5 (JG m)=AD n m (Aj ps):=by
 have h2:vW n m ps≠[]:=λz=>h (by have:=congrArg List.length z;simp[vW]at this;exact this)
 have:=DU (n:=n) (m:=m) h2;rw[amW]at this;rw[this,Cj]
def StA(f:Nat->Nat->Option Int)(o p:Int)(q:Pr)(v:Int):Prop:=∃ps,Wy Ab ps/\j5 ps=q/\v=vl Ab o p ps
def Sq(f:Nat->Nat->Option Int)(n m:Nat)(o p:Int)(i j:Nat):Option Int:=fr (dh HE o p) n m i j
theorem qo(t:yF f n m)(o p:_)(hi:i<n)(hj:j<m):fD (StA f o p ((i:Int),(j:Int))) (Sq f n m o p i j):=by
 unfold Sq;rw[fr,A7 ⟨hi,hj⟩];refine(gz HE o p (n-1-i) (m-1-j)).iff λv=>?_
 have er:AD n m ((i:Int),(j:Int))=(((n-1-i:Nat):Int),((m-1-j:Nat):Int)):=Cd (by show(n:Int)-1-(i:Int)=_;lia) (by show(m:Int)-1-(j:Int)=_;lia);constructor
 ·rintro⟨ps,w,el,rfl⟩;have w2:=w.rev HH;rw[ach t]at w2;refine⟨JG m,w2,?_,?_⟩
  ·rw[akm w.ne,el,<-er,Cj]
  ·have:=Ck (HH (f:=f) (n:=n) (m:=m)) o p ps;rw[ach t]at this;exact this.symm
 ·rintro⟨ps,w,el,rfl⟩;exact⟨JG m,w.rev t,by rw[DU w.ne,el,er],(Ck t o p ps).symm⟩
def abV(f:Nat->Nat->Option Int)(o p:Int)(q:Pr)(v:Int):Prop:=∃ps,Wy Ab ps/\q∈ps/\v=vl Ab o p ps
def V':Option Int->Option Int->Option Int->Option Int
 |some w,some e,some s=>some (e+s-w)
 | _,_,_=>none
theorem anJ(t:yF f n m)(o p:_)(hi:i<n)(hj:j<m):fD (abV f o p ((i:Int),(j:Int))) (V' (f i j) (GG i j) (Sq f n m o p i j)):=by
 have hE:=gz f o p i j;have hS:=qo t o p hi hj;cases e:f i j with
 |none=>
  rintro v ⟨ps,w,hm,rfl⟩;have:=w.ok _ hm;rw[gy,e]at this;cases this
 |some x=>
  have eg:lf f ((i:Int),(j:Int))=some x:=by rw[gy];exact e
  have one:Wy Ab [((i:Int),(j:Int))]:= .one (by rw[eg];rfl);cases e1:dh f o p i j with
  |none=>
   rw[e1]at hE;exact WV VS
  |some E=>
   cases e2:Sq f n m o p i j with
   |none=>
    rw[e2]at hS;exact WV (hS _)
   |some S=>
    rw[e1]at hE;rw[e2]at hS;obtain⟨⟨as,wa,la,ea⟩,hE⟩:=hE;obtain⟨⟨bs,wb,lb,eb⟩,hS⟩:=hS;refine⟨?_,?_⟩
    ·obtain⟨qs,eq,_,hq⟩:=wa.split;rw[la]at eq hq;obtain⟨r,er⟩:∃r,bs=((i:Int),(j:Int))::r:=by
      cases bs with
      |nil=>exact EV wb.ne
      |cons b r=>exact⟨r,by have:b=((i:Int),(j:Int)):=lb;rw[this]⟩
     refine⟨qs++((i:Int),(j:Int))::r,⟨AA,λz hz=>?_,?_⟩,AA,?_⟩
     ·rcases List.mem_append.mp hz with hz|hz
      ·exact wa.ok z (by rw[eq];exact CW hz)
      ·exact wb.ok z (by rw[er];exact hz)
     ·have ua:=wa.up;have ub:=wb.up;rw[eq]at ua;rw[er]at ub;have ha:=Et ua;refine List.pairwise_append.mpr ⟨ha.1,ub,λa1 h1 b1 h2=>?_⟩;have s1:=ha.2.2 a1 h1 ((i:Int),(j:Int)) (AA);rcases List.mem_cons.mp h2 with e3|h2
      ·rw[e3];exact s1
      ·exact nN s1 ((NR ub).1 b1 h2)
     ·rw[ql,<-eq,<-er,<-ea,<-eb,eg];rfl
    ·rintro v ⟨ps,w,hm,rfl⟩;obtain⟨a1,b1,rfl⟩:=xu hm;have up:=Et w.up;have wA:Wy Ab (a1++[((i:Int),(j:Int))]):=⟨AA,λz hz=>w.ok z (by
      rcases List.mem_append.mp hz with hz|hz
      ·exact CW hz
      ·have:z=((i:Int),(j:Int)):=by simpa using hz
       rw[this];simp),List.pairwise_append.mpr ⟨up.1,AA,λx1 h1 y1 h2=>by
      have:y1=((i:Int),(j:Int)):=by simpa using h2
      rw[this];exact up.2.2 x1 h1 _ (AA)⟩⟩
     have wB:Wy Ab (((i:Int),(j:Int))::b1):=⟨AA,λz hz=>Gv z (Cn hz),up.2.1⟩
     have h1:=hE _ ⟨_,wA,bT,rfl⟩;have h2:=hS _ ⟨_,wB,rfl,rfl⟩;rw[ql,eg];show _<=E+S-x;simp only[Option.getD_some]
     lia
theorem oZ (c) (shut) (p):lf K5 p=nK c shut p:=by
 unfold lf;split
 ·rename_i h
  unfold dU
  congr 1
  exact Cd (by simp;lia) (by simp;lia)
 ·rename_i h
  unfold nK;split
  ·rfl
  ·exact(c.pw_out A3).symm
theorem Cm (c) (shut):yF K5 c.xs.length c.ys.length:=λi j h=>by
 unfold dU nK at h;split at h
 ·cases h
 ·obtain⟨w,hw⟩:=Option.isSome_iff_exists.mp h;have:=Ni hw;simp at this
  lia
theorem DV(h:ps≠[]):kU ps=lstP ps:=by
 obtain⟨qs,x,rfl⟩:∃qs x,ps=qs++[x]:=⟨ps.dropLast,N5 h,(JT h).symm⟩
 rw[oY,bT]
theorem aqI{p}(h:nK c shut p=some w):c.pw p=some w/\p∉shut:=by
 unfold nK at h;split at h
 ·cases h
 ·rename_i hs
  exact⟨h,hs⟩
theorem yG:∀{k:Nat}{ps:List Pr},ps.length=k->qk c shut ps->Wy ZS ps/\wW c ps=vl ZS c.out c.into ps
 |0,ps,hk,o=>χ (lG o.1).1
 |k+1,ps,hk,o=>by
  obtain⟨qs,eq,⟨w,hw⟩,hq⟩:=o.split;generalize kU ps=p at eq hw hq;subst eq;have hp:=aqI hw;rcases hq with rfl|⟨oq,st⟩
  ·exact⟨.one (by rw[hw];rfl),by rw[List.nil_append,akd hp.1];simp[vl,hw]⟩
  ·have hlen:qs.length=k:=by simpa using hk
   obtain⟨wq,vq⟩:=yG hlen oq;have el:=DV wq.ne;rw[aax,el]at st;refine⟨wq.snoc (by rw[hw];rfl) st,?_⟩;rw[ahK wq.ne hp.1,Kc wq.ne,hw,vq,el];rfl
theorem DW:∀{k:Nat}{ps:List Pr},ps.length=k->Wy ZS ps->qk c shut ps
 |0,ps,hk,w=>χ w.ne
 |k+1,ps,hk,w=>by
  obtain⟨qs,eq,⟨v,hv⟩,hq⟩:=w.split;generalize lstP ps=p at eq hv hq;subst eq;rcases hq with rfl|⟨wq,st⟩
  ·exact .one hv
  ·have hlen:qs.length=k:=by simpa using hk
   exact(DW hlen wq).snoc hv (aax.mpr (by rw[DV wq.ne];exact st))
theorem AF:qk c shut ps↔Wy eD ps:=by
 have:lf (Fy c)=nK c shut:=by funext p;exact oZ c shut p
 rw[this];exact⟨λo=>(yG rfl o).1,λw=>DW rfl w⟩
theorem agp(o:qk c shut ps):wW c ps=vl eD c.out c.into ps:=by
 have:lf (Fy c)=nK c shut:=by funext p;exact oZ c shut p
 rw[this];exact(yG rfl o).2
def yH(c:Case)(shut:List Pr):Nat->Nat->Option Int:=Sq K5 c.xs.length c.ys.length c.out c.into
def me(c:Case)(shut:List Pr)(i j:Nat):Option Int:=V' Wb (n9 c shut i j) (yH c shut i j)
end QF
namespace L2
open PySem PySem.Spec PyProof.Rows PySem.W PySem.Calls
section
variable{X:Cx}
open Classical in
end
end L2
namespace QF
open PySem L2
theorem gw.first(P:gw H xs ps)(ed:ps≠[]):∃t,uc xs 0=some (.ref t)/\H t=some (.tup [.int (j5 ps).1, .int (j5 ps).2]):=by
 cases ps with
 |nil=>exact EV ed
 |cons p r=>
  obtain⟨t,h1,h2⟩:=P.2 0 p rfl;exact⟨t,U9 h1,h2⟩
theorem asj(hi:i<n):(EJ (f (n-1-i))).reverse=cO m (fr f n m i):=by
 refine List.ext_getElem? λk=>?_
 by_cases hk:k<m
 ·rw[Km (by rw[bM];exact hk),bM,bN (by lia:m-1-k<m),bN hk];unfold fr;rw[A7 ⟨hi,hk⟩]
 ·rw[FI (by rw[List.length_reverse,bM];lia),FI (by rw[bM];lia)]
inductive lJ(vs:List V)(H:Hp)(Q:VK)(u3:XK):Prop
 |mk (e) (as) (f) (n m:_) (_:vs=[.ref e]) (_:H e=some (.lst Dt)) (_:fE H as f n m) (_:n<=1000) (_:m<=1000) (_:∀H' r,av H H'->Tab H H' r HE n m->Q (.ref r) H'):lJ vs H Q u3
inductive mQ(CT:Addr)(vs:List V)(H:Hp)(Q:VK)(u3:XK):Prop
 |mk (w t:_) (c) (as) (f) (n m:_) (_:vs=[.ref w, .ref t]) (_:H w=some (.lst Dt)) (_:fE H as f n m) (_:uI H CT t c) (_:n<=1000) (_:m<=1000) (_:∀H' r,av H H'->Tab H H' r (Sq f n m c.out c.into) n m->Q (.ref r) H'):mQ CT vs H Q u3
inductive uM(vs:List V)(H:Hp)(Q:VK)(u3:XK):Prop
 |mk (w e s:_) (_:vs=[bu w,bu e,bu s]) (_:w.isSome=true->e.isSome=true/\s.isSome=true) (_:Q (bu (V' w e s)) H):uM vs H Q u3
end QF
namespace L2
open PySem PySem.Spec PyProof.Rows PySem.W PySem.Calls
section
variable{prog:Program}{w:World}{κ:Type}[DecidableEq κ]{knd:HeapKind prog w κ}{A:Around}{E:Value->Shared->Prop}{s:Shared}
theorem xN{α β:Type}(f:α->β):∀(xs:List α)(j:Nat),(xs.eraseIdx j).map f=(MI f).eraseIdx j
 |[],_=>AA
 | _::_,0=>AA
 | _::r,j+1=>by simp[xN f r j]
theorem amB{xs:List (κ×Addr×Value)}(hn:(MI (·.1)).Nodup):∀{j:Nat}{k:κ}{p:Addr×Value},xs[j]?=some (k,p)->xs.eraseIdx j=xs.filter λx=>decide (x.1≠k):=by
 induction xs with
 |nil=>intro j k p h;simp at h
 |cons x r ih=>
  intro j k p h;have Gx:=K8 (by simpa using hn:(x.1::r.map (·.1)).Nodup);cases j with
  |zero=>
   have:x=(k,p):=by simpa using h
   subst this;have hf:r.filter (λx=>decide (x.1≠k))=r:=List.filter_eq_self.mpr λy hy=>by
    have:y.1≠k:=λe=>Gx.1 (EY ⟨y,hy,e⟩)
    simpa using this
   simp only[List.eraseIdx_cons_zero,List.filter_cons];rw[hf];simp
  |succ j=>
   have hj:r[j]?=some (k,p):=by simpa using h
   have hx:x.1≠k:=λe=>Gx.1 (e▸(EY ⟨(k,p),B7 hj,rfl⟩))
   simp only[List.eraseIdx_cons_succ,List.filter_cons];rw[ih Gx.2 hj,A7 (by simpa using hx)]
theorem avo{d a}{p}(hu:knd.room A)(p5:knd.is s.heap k a)(hm:s.heap.DictOfH knd d xs)(hp:atKey xs k=some p)(hsz:xs.length<=sizeLine)
  (h:∀h' e,e.val=p.2->h'.DictOfH knd d (xs.filter λx=>decide (x.1≠k))->Heap.SameBut d s.heap h'->Q (some e) {s with heap:=h',toks:=s.toks+knd.draws k}):wpAny AR A (Builtin.Dict.takeOut d (.ref a)) Q E s:=by
 obtain⟨o,es,ep,ho,hc,hd,he,Wa,hn⟩:=hm;unfold Builtin.Dict.takeOut
 try with_reducible refine wpAny_holding ?_
 refine wpAny_bind (knd.pyHash hu p5 ?_);refine wpAny_bind (wpAny_dictFind_heap (s:={s with toks:=s.toks+knd.draws k}) hu p5 ho hd he Wa hn ?_ ?_)
 ·intro Fe;rw[atKey_none_of_get Fe]at hp;cases hp
 ·intro j q hj;have eq:q=p:=by rw[atKey_of_get hn hj]at hp;exact Aw hp
  subst eq;refine wpAny_bind (wpAny_dictEntries (s:={s with toks:=s.toks+knd.draws k}) ho hd ?_);rw[entry_at he j,hj];refine wpAny_bind (wpAny_updateDictKeys (hz:=by have e:=size_of_entries he;lia) (s:={s with toks:=s.toks+knd.draws k}) ho hd (wpAny_pure (h _ _ rfl ⟨_,_,ep+1,amZ (Obj.isFreed_of_dict (aoD hd)),
   hc.mapDictKeys _,aoD hd,?_,?_,?_⟩ (Heap.SameBut.update ..))))
  ·rw[<-amB hn hj,xN,<-he];obtain⟨l⟩:=es;simp
  ·intro x hx;exact knd.keeps (Wa x (N_ hx).1) ho hd (Heap.SameBut.update ..)
  ·exact hn.sublist atY
theorem afq(d a:_):
  MeetsIn prog w (Builtin.«dict.pop» ⟨[.ref d, .ref a],[]⟩) (λA R s=>knd.room A.in1/\∃k xs p,knd.is s.heap k a/\s.heap.DictOfH knd d xs/\xs.length<=sizeLine/\atKey xs k=some p/\
   ∀h',h'.DictOfH knd d (xs.filter λx=>decide (x.1≠k))->Heap.SameBut d s.heap h'->R (.ok (.ret p.2)) {s with heap:=h',toks:=s.toks+knd.draws k}):=
 .of_wp λA R s ⟨hu,k,xs,p,p5,hm,hsz,hp,h⟩=>by
  obtain⟨o,es,ep,ho,hc,hd,he,Wa,hn⟩:=id hm;have ed:es.isEmpty=false:=by
   cases hx:xs with
   |nil=>rw[hx]at hp;cases hp
   |cons x r=>
    have:=aru he;rw[hx]at this;simp at this;rw[Array.isEmpty_eq_false_iff];intro e;rw[e]at this;simp at this
  unfold Builtin.«dict.pop»;refine wpAny_bind ?_;unfold Builtin.Dict.keyAndDefault;refine wpAny_bind (Ε hm.typeIs);show wpAny _ _ (BQ (d,Rr a,none)) _ _ s;refine wpAny_pure ?_;have akC:(keyPart (Rr a)).isSome=false:=rfl;simp only[akC,Bool.false_eq_true,if_false];refine wpAny_bind (Qg ho hd avl);rw[ed];simp only[Bool.false_eq_true,if_false];refine wpAny_bind (avo hu p5 hm hp hsz λh' e hev Ha oG=>?_);simp only[Option.isNone_some,Bool.false_eq_true,if_false];exact Ax (h_ (B2 ⟨e.val,rfl,by rw[hev];exact h h' Ha oG⟩))
end
section
variable{X:Cx}{pins:List (Addr×Obj)}{σ:St}{H:Hp}{s:Shared}{a:Addr}{u:Value}{A:Around}{E:Value->Shared->Prop}{kvs:List (List Key×V)}
theorem KT.drop(r:KT H kvs xs) (k):KT H ν (xs.filter λx=>decide (x.1≠k)):=by
 unfold jG
 induction r with
 |nil=>exact .nil
 |cons z t ih=>
  simp only[List.filter_cons];rw[z.1];split
  ·exact .cons z ih
  ·exact ih
theorem akQ{k}{b}(hu:A.units+1<cLine)(I:Inv X pins σ H s)(e:H a=some (.dT kvs))(eb:H b=some (.tup K0))(l:bH kvs k=some v)
  (h:∀w' s',Inv X pins σ avA s'->RelV v w'->Q w' s'):wpAny Ak A (call (.builtin "dict.pop") [.ref a, .ref b]) Q E s:=by
 obtain⟨z,hd,xs,rel,dd⟩:=LM I.cc e;have rv:=H_ k;rw[l]at rv;obtain⟨w',hw,il⟩:=lz.some_of rv;obtain⟨p,hp,rfl⟩:=YK hw;refine call_meetsIn PySem.F.slot_dict_pop dd.typeIs PySem.F.entry_dict_pop (PySem.F.args_dict_pop_2 _ _) (afq (knd:=OQ p4) a b)
  ⟨Vv hu,k,xs,p,NQ eb,dd,by rw[<-Oa rel];exact z,hp,λh' LN hs=>HB ?_ il⟩
 obtain⟨q,es,ep,hq,h2,h3,h4,_,h5⟩:=LN;refine x_ I (by rw[e];exact True.intro) hs ⟨q,hq⟩ ⟨E3 (aao kvs k) z,hd,_,(rel.drop k).keeps λc ys ec=>?_,q,es,ep,hq,h2,h3,h4,h5⟩;rw[aq (jC ec e (λz=>nomatch z))];exact ec
end
inductive L5(x y:V)(H:Hp)(Q:VK):Prop
 |mk (a b:_) (kvs) (k) (v) (_:x= .ref a) (_:y= .ref b) (_:H a=some (.dT kvs)) (_:H b=some (.tup K0)) (_:bH kvs k=some v) (_:Q v avA):L5 x y H Q
def anm(td ty:TE):TE:=λσ H Q=>td σ H λx H1=>∃a,x= .ref a/\Vw H1 a/\ty σ H1 λy H2=>L5 x y H2 Q
theorem HK{X}{o e}{apos fe}{td ty}(hu:X.A.units+1<cLine)(ho:PE X o td)(he:PE X e ty)(m:M1 X o "pop" apos e fe):PE X (.Call (.Attribute o "pop" apos) [e] [] fe) (anm td ty):=by
 intro pins s σ H Q I h;refine wpAny_Call_method m.base m.Bz m.line PySem.F.plainAttrs_dict PySem.F.slot_dict_pop PySem.F.type_dict_pop (cU Nc λu s1 ⟨x,H1,I1,rx,a,ex,d,q1⟩=>?_);subst ex;obtain rfl:u=Value.ref a:=rx;obtain⟨t1,t2,_⟩:=adG I1 d;refine⟨t1,t2,?_⟩;rw[m.trees];refine Calls.callWith_builtin rfl (Zh (wR (cU vQ λiv s2 ⟨y,H2,I2,ry,q2⟩=>NM ?_)));obtain⟨a',b,kvs,k,v,e1,rfl,e2,e3,l,q⟩:=q2;cases e1;obtain rfl:iv=Value.ref b:=ry;exact akQ hu I2 e2 e3 l λw' s3 I3 il=>⟨v,_,I3,il,q⟩
section
variable{prog:Program}{w:World}{A:Around}{E:Value->Shared->Prop}{s:Shared}{it d:Addr}{i ep:Nat}{od:Obj}{es:Array DictEntry}{Q:Option Value->Shared->Prop}
theorem auS(hit:s.heap.IsValIter it d i es.size ep)(L6:s.heap.get? d=some od)(L7:od.data= .dict es ep)(hi:i<es.size)
  (hQ:∀h',h'.IsValIter it d (i+1) es.size ep->Heap.SameBut it s.heap h'->Q (some es[i].val) {s with heap:=h'}):wpAny AR A (pyNext (.ref it)) Q E s:=by
 obtain⟨o,ho,hc,hd⟩:=id hit;have T:=hit.typeIs;have Fe:Builtin.Dict_items.ownsTuple "dict_valueiterator"=false:=AN;unfold pyNext;refine wpAny_bind axM;refine wpAny_bind avm;first|refine wpAny_bind (X' T)|refine wpAny_bind X2
 refine wpAny_bind (vt ?_);simp only[Fe,Bool.false_eq_true,if_false];show wpAny _ _ (if (Value.ref d==Value.none)=true then _ else _) _ _ s;rw[A6 (show ¬((Value.ref d==Value.none)=true)from Bool.false_ne_true)];refine wpAny_bind auh;rw[if_neg A9];refine wpAny_bind w_;rw[if_neg A9];refine wpAny_pure ?_;simp only[show ¬((i:Int)<0)from by lia,if_false,Int.toNat_natCast,η hi];refine wpAny_bind ?_;first|refine wpAny_bind (X' T)|refine wpAny_bind X2
 refine wpAny_bind (wpAny_isOneOf_valiter T ?_);show wpAny _ _ (setField (.ref it) 1 (rawInt ((i:Int)+1))>>=_) _ _ s;refine wpAny_bind (zu ?_);have ht:(s.heap.update it (t5 (·.setIfInBounds 1 (rawInt ((i:Int)+1))))).IsValIter it d (i+1) es.size ep:=
  ⟨_,amZ (Obj.isFreed_of_fields (Obj.data_mapFields hd _)),(Obj.cls_mapFields ..).trans hc,by rw[Obj.data_mapFields hd];simp[rawInt]⟩
 refine wpAny_bind (IC (Ax (wpAny_isOneOf_valiter (s:={s with heap:=s.heap.update it (t5 (·.setIfInBounds 1 (rawInt ((i:Int)+1))))}) ht.typeIs ?_)));refine wpAny_bind (wpAny_isOneOf_valiter (s:={s with heap:=s.heap.update it (t5 (·.setIfInBounds 1 (rawInt ((i:Int)+1))))}) ht.typeIs ?_);show wpAny _ _ (pure es[i].val) _ _ _;exact B2 (B2 ⟨_,rfl,B2 (hQ _ ht (Heap.SameBut.update ..))⟩)
theorem aqa(hh:A.handled=none)(hit:s.heap.IsValIter it d i es.size ep)(L6:s.heap.get? d=some od)(L7:od.data= .dict es ep)(hi:es.size<=i)
  (hQ:∀h',Heap.ExtBut it s.heap h'->Q none {s with heap:=h'}):wpAny AR A (pyNext (.ref it)) Q E s:=by
 obtain⟨o,ho,hc,hd⟩:=id hit;have T:=hit.typeIs;have Fe:Builtin.Dict_items.ownsTuple "dict_valueiterator"=false:=AN;unfold pyNext;refine wpAny_bind axM;refine wpAny_bind avm;first|refine wpAny_bind (X' T)|refine wpAny_bind X2
 refine wpAny_bind (vt ?_);simp only[Fe,Bool.false_eq_true,if_false];show wpAny _ _ (if (Value.ref d==Value.none)=true then _ else _) _ _ s;rw[A6 (show ¬((Value.ref d==Value.none)=true)from Bool.false_ne_true)];refine wpAny_bind auh;rw[if_neg A9];refine wpAny_bind w_;rw[if_neg A9];refine wpAny_pure ?_;simp only[show ¬((i:Int)<0)from by lia,if_false,Int.toNat_natCast,Array.getElem?_eq_none hi];refine wpAny_bind ?_;first|refine wpAny_bind (X' T)|refine wpAny_bind X2
 show wpAny _ _ (setField (.ref it) 0 .none>>=_) _ _ s;refine wpAny_bind (zu ?_);show wpAny _ _ (newExc (.type "StopIteration") []>>=_) _ _ _;refine wpAny_bind ?_;simp only[newExc,newTuple];refine wpAny_bind (wpAny_newObj_type ?_ (by size_fits));refine wpAny_bind (m:=firstArgMember _ _) (wpAny_of_eq (a:=Value.none) (by first|rfl|(simp only[firstArgMember];rfl)) ?_);refine wpAny_newObj_type ?_ (by size_fits);simp only[raiseNew];refine wpAny_bind (wpAny_handled ?_);rw[show A.in1.handled=none from hh];refine wpAny_bind (B2 (wpAny_throw ?_));refine wpAny_bind (wpAny_isInstance (T:="StopIteration") (b:=true) ⟨_,Heap.get?_push_size _ rfl,rfl⟩ isSubtype_stop ?_);exact B2 (hQ _ (((Heap.SameBut.update ..).extBut.push _).push _))
end
theorem xO{α β:Type}{F:α->β->Prop}:∀{l:List α}{m:List β}{i:Nat}{a:α},Paired F l m->l[i]?=some a->∃b,m[i]?=some b/\F a b
 | _,_,_,_, .nil,e=>by simp at e
 | _,_,0,_, .cons r _,e=>by simp at e;subst e;exact⟨_,rfl,r⟩
 | _,_,i+1,_, .cons _ t,e=>by
  obtain⟨b,h,f⟩:=xO (i:=i) t (by simpa using e);exact⟨b,by simpa using h,f⟩
def aio(d:Addr)(o:Obj)(kvs:List (List Key×V)):It:=
 ⟨λi H=>H d=some (.t9 o (.dT kvs))/\i<kvs.length,λi H x H'=>H'=H/\∃p,kvs[i]?=some p/\x=p.2,λi H=>H d=some (.t9 o (.dT kvs))/\kvs.length<=i⟩
theorem DX{d}{es}(ok:mH P w H h)(e:H d=some (.t9 o (.dT kvs)))(hd:o.data= .dict es ep):
  h.get? d=some o/\es.size=kvs.length/\∀i (hi:i<es.size) p,kvs[i]?=some p->RelV p.2 es[i].val:=by
 obtain⟨q1,_,_,xs,r,o',Ti,Tj,z1,z2,z3,z4,_⟩:=ok d _ e;rw[q1]at z1;cases z1;rw[hd]at z3;cases z3;have hs:=aru z4;have hl:=Oa r;refine⟨q1,by rw[hs,hl],λi hi p hp=>?_⟩;obtain⟨x,hx,rx⟩:=xO r hp;have e1:=entry_at z4 i;rw[hx,η hi]at e1;have:es[i]=entryOfKey Yu x:=Aw e1;rw[this];exact rx.2.2
theorem turn_val{K:Frag}{d:Addr}{o}(hd:o.data= .dict es ep):Turn P w K tg sq [it] it (λi h=>h.IsValIter it d i es.size ep) where
 mem:=AA
 obj:=λi h st b hb=>by
  have e:b=it:=by simpa using hb
  subst e;obtain⟨o,e,c,d⟩:=st;exact⟨o,e,λv z=>by rw[d]at z;cases z⟩
 keep:=λi h h' st k=>let ⟨o,ho,r⟩:=st;⟨o,k it (AA) o ho,r⟩
 item:=by
  intro X hP hw hK hc i pins s σ H E I hf st hg;subst hP hw hK;obtain⟨hg,hi⟩:=hg;obtain⟨f0,f1,f2,f3,f4,f5⟩:=FW it;obtain⟨g1,g2,g3⟩:=DX I.cc hg hd;have BB:i<es.size:=by lia
  refine auS st g1 hd BB λh' aW sb=>?_
  have I1:Inv X pins σ H {s with heap:=h'}:=I.turned (t':=s.toks) (λb o hb e=>(Pa b).trans e) f0 f1 f3 f4 f5;obtain⟨oi,q1,q2,q3⟩:=id aW;exact⟨_,rfl,xq (s:={s with heap:=h'}) q1 q2 q3 EN ⟨_,H,I1,g3 i BB kvs[i] (by simp[hi]),⟨rfl,kvs[i],by simp[hi],rfl⟩,aW,λb hb=>(FK b).1⟩⟩
 done:=by
  intro X hP hw hK hc i pins s σ H E I hf st hg;subst hP hw hK;obtain⟨hg,hi⟩:=hg;obtain⟨f0,f1,f2,f3,f4,f5⟩:=FW it;obtain⟨g1,g2,g3⟩:=DX I.cc hg hd;exact aqa Gp st g1 hd A3 λh' eb=>⟨rfl,MZ f5⟩
 self:=λ_ _ _ _ _ st h=>wpAny_pyIter_valiter st h
section
variable{prog:Program}{w:World}{A:Around}{E:Value->Shared->Prop}{s:Shared}
theorem avs (d) (hd:(d==sysModules)=false):MeetsIn prog w (Builtin.«dict.values» ⟨[.ref d],[]⟩) (λ_ R s=>s.TypeIs (.ref d) "dict"/\
   R (.ok (.ret (.ref s.heap.objs.size))) {s with heap:=s.heap.push {cls:= .type "dict_values",data:= .fields #[.ref d]}}):=
 .of_wp λA R s ⟨ht,h⟩=>by
  refine wpAny_bind ?_;unfold Builtin.Dict.noArgs;refine wpAny_bind (Ε ht);show wpAny _ _ (BQ d) _ _ s;refine wpAny_pure ?_;show wpAny _ _ (Builtin.Dict.showsAll d>>=_) _ _ s;unfold Builtin.Dict.showsAll;rw[A6 (by rw[hd];exact Bool.false_ne_true)];exact Ax (B2 (Ax (wJ (B2 ⟨_,rfl,h⟩))))
theorem aiJ{d:Addr}(hv:s.heap.IsValuesView v d)(L6:s.heap.get? d=some od)(L7:od.data= .dict es ep)
  (hQ:Q (.ref s.heap.objs.size) {s with heap:=s.heap.push {cls:= .type "dict_valueiterator",data:= .fields #[.ref d, .int 0 0, .int es.size 0, .int ep 0]}}):wpAny AR A (pyIter (.ref v)) Q E s:=by
 obtain⟨ov,hov,hcv,hdv⟩:=id hv;refine wpAny_pyIter_slot hv.typeIs F.slot_dict_values_iter (wpAny_call_entry F.slot_dict_values_iter hv.typeIs F.entry_dict_values_iter ?_ (F.args_dict_values_iter_1 _));unfold Builtin.«dict_values.__iter__»;refine wpAny_bind Κ;unfold Builtin.Dict_items.dictOf;refine wpAny_bind (wpAny_field hov hdv (x:= .ref d) rfl (B2 wV));unfold Builtin.Dict_items.newIterator;refine wpAny_bind (Qg L6 L7 avp);have Fe:Builtin.Dict_items.ownsTuple "dict_valueiterator"=false:=AN;simp only[Fe,Bool.false_eq_true,if_false];refine wpAny_newObj_type (B2 ⟨_,rfl,"dict_valueiterator",_,⟨_,Heap.get?_push_size _ rfl,rfl⟩,F.slot_dict_valueiterator_next.lookup,?_⟩);simpa[rawInt]using hQ
end
def aqb(fA:Hp)(tl:TE):TI:=λσ H R=>tl σ H λx H1=>∃d kvs,x= .ref d/\H1 d=some (.dT kvs)/\∀o,NF fA d->R sq (zH d)
theorem aqX{X} (fA) {tg o} {tl} {apos fe} (hl:PE X o tl) (p9:attributeBase o "values" X.env (eval o X.env)=eval o X.env:=by rfl) (p_:(apos.endLine==fe.line)=true:=by rfl) (hH:X.fA=fA:=by rfl):
  PI X tg (.Call (.Attribute o "values" apos) [] [] fe) (aqb fA tl):=by
 subst hH;intro pins s σ H R I h;refine wpAny_Call_method0_late p9 p_ (cU nr λv s1 ⟨x,H1,I1,r1,q1⟩=>?_);obtain⟨d,kvs,e,hd,q⟩:=q1;subst e;cases r1;obtain⟨z1,z2,xs,r,o,es,ep,g1,g2,g3,g4,g5⟩:=I1.cc d _ hd;have nf:NF X.fA d:=λo v e=>by
  have:=I1.base.pY d o v e;rw[hd]at this;cases this
 refine⟨"dict",_,F.plainAttrs_dict,F.slot_dict_values,F.type_dict_values,⟨o,g1,g2.1⟩,λb hb=>?_,ug (apD ?_)⟩
 ·cases hb;exact⟨o,g1,g2.2.1⟩
 refine call_meetsIn F.slot_dict_values ⟨o,g1,g2.1⟩ F.entry_dict_values (F.args_dict_values_1 _) (avs d z2) ⟨⟨o,g1,g2.1⟩,?_⟩;have g1':=Heap.get?_push_of_some {cls:= .type "dict_values",data:= .fields #[.ref d]} g1;refine aiJ (s:={s1 with heap:=s1.heap.push {cls:= .type "dict_values",data:= .fields #[.ref d]}}) ⟨_,Heap.get?_push_size _ rfl,rfl,rfl⟩ g1' g3 ?_;have Iz:Inv X pins σ (zH d) s1:=I1.swap hd (λ_ z=>nomatch z) (λ_ z=>nomatch z) (λ_ z=>nomatch z) nf ⟨g1,z1,z2,xs,KT.keeps r (λc ys ec=>by rw[aq (jC ec hd (λz=>nomatch z))];exact ec),o,es,ep,g1,g2,g3,g4,g5⟩;have I2:=Iz.kept (t':=s1.toks) λb o e=>Heap.get?_push_of_some {cls:= .type "dict_values",data:= .fields #[.ref d]} e
 refine⟨_,[_],_,_,_,rfl,I2.kept (t':=s1.toks) λb o e=>BL e,turn_val (o:=o) (kvs:=kvs) g3,⟨_,Heap.get?_push_size _ rfl,rfl,rfl⟩,λb hb=>?_,q o nf⟩;have e:b=(s1.heap.push {cls:= .type "dict_values",data:= .fields #[.ref d]}).objs.size:=by simpa using hb
 subst e;exact ala Bj
structure Co(n:Nat)(lt:Nat->Nat->Bool):Prop where
 tr:∀i j k,i<n->j<n->k<n->lt i j=true->lt j k=true->lt i k=true
 as:∀i j,i<n->j<n->lt i j=true->lt j i=false
 TX:∀i j,i<n->j<n->i≠j->lt i j=true∨lt j i=true
def zV(n:Nat)(p:Array Nat):Prop:=p.toList.Perm (B5 n)
abbrev gd(p:Array Nat)(k:Nat):Nat:=p.getD k 0
theorem HM (p) (k):gd p k=(p[k]?).getD 0:=by unfold gd;rw[Array.getD_eq_getD_getElem?]
theorem zV.size{p}(h:zV n p):p.size=n:=by have:=h.length_eq;simpa using this
def Sd(lt:Nat->Nat->Bool)(p:Array Nat)(m:Nat):Prop:=∀i j,i<j->j<m->lt (gd p i) (gd p j)=true
section
variable{n:Nat}{lt:Nat->Nat->Bool}(L:Co n lt)
include L
omit L in
omit L in
omit L in
end
def AG:Bool->Keyed->Array Keyed->Nat->Nat->Nat->StateT SortSt Sem (Gk Nat):=sortPriv%PySem.Builtin.gallop
def NY:Array Keyed->Array Keyed->StateT SortSt Sem (J5 Keyed):=sortPriv%PySem.Builtin.mergeLo
def NZ:Array Keyed->Array Keyed->StateT SortSt Sem (J5 Keyed):=sortPriv%PySem.Builtin.mergeHi
def Cp(l:Bool)(key:Keyed)(xs:Array Keyed)(b i:Nat):StateT SortSt Sem (Gk Bool):=do
 let x<-elem' xs (b+i)
 if l then lt' x key else return (<-lt' key x).map (!·)
theorem amH (l) (key) (xs) (b n h:_):AG l key xs b n h=(do
 let mut u:=0
 let mut v:=1
 let mut lo:=0
 let mut hi:=0
 let some r<-Cp l key xs b h|return none
 if r then
  let mx:=n-h
  for _ in [0:n] do
   if v>=mx then break
   let some z<-Cp l key xs b (h+v)|return none
   if !z then break
   u:=v
   v:=2*v+1
  lo:=h+u+1
  hi:=h+min v mx
 else
  let mx:=h+1
  for _ in [0:n] do
   if v>=mx then break
   let some z<-Cp l key xs b (h-v)|return none
   if z then break
   u:=v
   v:=2*v+1
  lo:=h+1-min v mx
  hi:=h-u
 for _ in [0:n] do
  if lo>=hi then break
  let m:=lo+(hi-lo)/2
  let some z<-Cp l key xs b m|return none
  if z then lo:=m+1 else hi:=m
 return some hi):=rfl
section
variable{prog:Program}{w:World}{A:Around}{E:Value->Shared->Prop}{s:Shared}
structure HN(prog:Program)(w:World)(A:Around)(s:Shared)(X:List Keyed)(κ:SortKind)(lt:Keyed->Keyed->Bool):Prop where
 run:∀x∈X,∀y∈X,∀C:Bool->Shared->Prop,C (lt x y) s->wpAny AR A (keyLt' κ x.1 y.1) C (λ_ _=>False) s
 tr:∀x∈X,∀y∈X,∀z∈X,lt x y=true->lt y z=true->lt x z=true
 as:∀x∈X,∀y∈X,lt x y=true->lt y x=false
 TX:∀x∈X,∀y∈X,x≠y->lt x y=true∨lt y x=true
 nd:X.Nodup
variable{X:List Keyed}{κ:SortKind}{lt:Keyed->Keyed->Bool}(C:HN prog w A s X κ lt)
include C
theorem HN.no(h1:x∈X)(h2:y∈X)(hn:x≠y)(h:lt x y=false):lt y x=true:=(C.TX x h1 y h2 hn).resolve_left (by rw[h];simp)
theorem HN.ask{st:SortSt}(hk:kindOf st=κ)(h1:x∈X)(h2:y∈X)(h:Q (some (lt x y)) st):wpS AR A E s (lt' x y) Q st:=by
 rw[lt'_eq];refine wpS_bind Hs;rw[hk];refine wpS_bind (wH (Zw (wpAny_mono (C.run x h1 y h2 (λb s'=>b=lt x y/\s'=s) ⟨rfl,rfl⟩) ?_ λ_ _ e=>e.elim)));rintro b s' ⟨rfl,rfl⟩;exact⟨rfl,Au h⟩
omit C in
theorem fG{st:SortSt}(e:xs[i]?=some x)(h:Q x st):wpS AR A E s (elem' xs i) Q st:=by
 rw[elem'_eq,e];exact Au h
def mz(lt:Keyed->Keyed->Bool)(l:Bool)(key x:Keyed):Bool:=if l then lt x key else !lt key x
theorem ahG{st:SortSt}{key:Keyed}{b:Nat}(hk:kindOf st=κ)(h1:key∈X)(h2:x∈X)(e:xs[b+i]?=some x)(h:Q (some (mz lt l key x)) st):wpS AR A E s (Cp l key xs b i) Q st:=by
 unfold Cp;refine wpS_bind (OO e);cases l with
 |true=>exact C.ask hk h2 h1 h
 |false=>exact Fo (C.ask hk h1 h2 (Au h))
theorem rN{st:SortSt}{key}{b:Nat}(g:Nat->Keyed)(hk:kindOf st=κ)(h1:key∈X)(hg:∀i,i<n->xs[b+i]?=some (g i)/\g i∈X)(VJ:∀i j,i<j->j<n->lt (g i) (g j)=true)(hh:h<n)
  (q:∀k,k<=n->(∀i,i<k->mz lt l key (g i)=true)->(∀i,k<=i->i<n->mz lt l key (g i)=false)->Q (some k) st):wpS AR A E s (AG l key xs b n h) Q st:=by
 have dn:∀i j,i<=j->j<n->mz lt l key (g j)=true->mz lt l key (g i)=true:=λi j vV hj hb=>by
  by_cases e:i=j
  ·rw[e];exact hb
  have hl:=VJ i j A3 hj;unfold mz at hb⊢;cases l with
  |true=>exact Ka (Wv i).2 (hg j hj).2 h1 hl hb
  |false=>
   simp only[Bool.false_eq_true,if_false,Bool.not_eq_true']at hb⊢;cases e2:lt key (g i)with
   |false=>rfl
   |true=>rw[Ka h1 (Wv i).2 (hg j hj).2 e2 hl]at hb;cases hb
 have up:∀i j,i<=j->j<n->mz lt l key (g i)=false->mz lt l key (g j)=false:=λi j vV hj hb=>by
  cases e:mz lt l key (g j)with
  |false=>rfl
  |true=>rw[dn i j vV hj e]at hb;cases hb
 have bin:∀lo hi,lo<=hi->hi<=n->(∀i,i<lo->mz lt l key (g i)=true)->(∀i,hi<=i->i<n->mz lt l key (g i)=false)->wpS AR A E s (do
   let r<-forIn [0:n] ((none,lo,hi):Option (Gk Nat)×Nat×Nat) λ_ __s=>
    if __s.2.1>=__s.2.2 then pure (ForInStep.done (none,__s.2.1,__s.2.2))
    else do
     let __x<-Cp l key xs b (__s.2.1+(__s.2.2-__s.2.1)/2)
     match __x with
     |some z=>if z=true then pure (IF (none,__s.2.1+(__s.2.2-__s.2.1)/2+1,__s.2.2))else pure (IF (none,__s.2.1,__s.2.1+(__s.2.2-__s.2.1)/2))
     | _=>BQ (ForInStep.done (some none,__s.2.1,__s.2.2))
   match r.1 with
   |some r=>BQ r
   |none=>BQ (some r.2.2)) Q st:=λlo hi h2 h3 h4 h5=>by
  refine wpS_bind (FP (IP (I:=λx c aW=>aW=st/\∃lo hi,c=(none,lo,hi)/\lo<=hi/\hi<=n/\(∀i,i<lo->mz lt l key (g i)=true)/\(∀i,hi<=i->i<n->mz lt l key (g i)=false)/\hi-lo+x<=n) (Q:=λc aW=>aW=st/\∃k,c.1=none/\c.2.2=k/\k<=n/\(∀i,i<k->mz lt l key (g i)=true)/\(∀i,k<=i->i<n->mz lt l key (g i)=false)) ⟨rfl,lo,hi,rfl,h2,h3,h4,h5,by lia⟩))
  ·rintro x c aW _ hx ⟨rfl,lo,hi,rfl,a1,a2,a3,a4,a5⟩;dsimp only;by_cases abM:lo>=hi
   ·rw[A7 abM];have:lo=hi:=by lia
    subst this;exact Au ⟨rfl,lo,rfl,rfl,a2,a3,a4⟩
   ·rw[A6 abM];have hm:lo+(hi-lo)/2<n:=by lia
    obtain⟨g1,g2⟩:=hg _ hm;refine wpS_bind sr;dsimp only;cases e:mz lt l key (g (lo+(hi-lo)/2))with
    |true=>
     simp only[if_true];exact Au ⟨rfl,_,hi,rfl,by lia,a2,λi BB=>dn i _ (by lia) hm e,a4,by lia⟩
    |false=>
     simp only[Bool.false_eq_true,if_false];exact Au ⟨rfl,lo,_,rfl,by lia,by lia,a3,λi BB pW=>up _ i BB pW e,by lia⟩
  ·rintro c aW ⟨rfl,lo,hi,rfl,a1,a2,a3,a4,a5⟩;have:lo=hi:=by lia
   subst this;exact⟨rfl,lo,rfl,rfl,a2,a3,a4⟩
  ·rintro⟨c1,c2,c3⟩ aW ⟨rfl,k,e1,e2,a2,a3,a4⟩;dsimp only at e1 e2⊢;subst e1 e2;exact Au (q _ a2 a3 a4)
 rw[amH];obtain⟨gh1,gh2⟩:=hg h hh;refine wpS_bind (Ξ gh2 gh1);dsimp only;cases e:mz lt l key (g h)with
 |true=>
  simp only[if_true];refine wpS_bind (FP (vw (I:=λx c aW=>aW=st/\∃u v,c=(none,u,v)/\u<v/\h+u<n/\mz lt l key (g (h+u))=true/\x<v) (Q:=λc aW=>aW=st/\∃u v,c=(none,u,v)/\u<v/\h+u<n/\mz lt l key (g (h+u))=true/\(n-h<=v∨(h+v<n/\mz lt l key (g (h+v))=false)))))
  ·rintro x c aW _ hx ⟨rfl,u,v,rfl,a1,a2,a3,a4⟩;dsimp only;by_cases hv:v>=n-h
   ·rw[A7 hv];exact Au ⟨rfl,u,v,rfl,a1,a2,a3, .inl hv⟩
   ·rw[A6 hv];obtain⟨g1,g2⟩:=Wv (h+v);refine wpS_bind sr;dsimp only;cases e2:mz lt l key (g (h+v))with
    |false=>
     simp only[Bool.not_false,if_true];exact Au ⟨rfl,u,v,rfl,a1,a2,a3, .inr ⟨by lia,e2⟩⟩
    |true=>
     simp only[Bool.not_true,Bool.false_eq_true,if_false];exact Au ⟨rfl,v,2*v+1,rfl,by lia,by lia,e2,by lia⟩
  ·rintro c aW ⟨rfl,u,v,rfl,a1,a2,a3,a4⟩;exact⟨rfl,u,v,rfl,a1,a2,a3, .inl A3⟩
  ·rintro c aW ⟨rfl,u,v,rfl,a1,a2,a3,a4⟩;dsimp only;refine Eq.mp ja (bin (h+u+1) (h+min v (n-h)) (by lia) (by lia) (λi hi=>dn i (h+u) (by lia) a2 a3) λi hi pW=>?_);rcases a4 with a4|⟨a4,a5⟩
   ·lia
   ·exact yB (h+v) i a5
 |false=>
  simp only[Bool.false_eq_true,if_false];refine wpS_bind (FP (vw (I:=λx c aW=>aW=st/\∃u v,c=(none,u,v)/\u<v/\u<=h/\mz lt l key (g (h-u))=false/\x<v) (Q:=λc aW=>aW=st/\∃u v,c=(none,u,v)/\u<v/\u<=h/\mz lt l key (g (h-u))=false/\(h+1<=v∨(v<=h/\mz lt l key (g (h-v))=true)))))
  ·rintro x c aW _ hx ⟨rfl,u,v,rfl,a1,a2,a3,a4⟩;dsimp only;by_cases hv:v>=h+1
   ·rw[A7 hv];exact Au ⟨rfl,u,v,rfl,a1,a2,a3, .inl hv⟩
   ·rw[A6 hv];obtain⟨g1,g2⟩:=Wv (h-v);refine wpS_bind sr;dsimp only;cases e2:mz lt l key (g (h-v))with
    |true=>
     simp only[if_true];exact Au ⟨rfl,u,v,rfl,a1,a2,a3, .inr ⟨by lia,e2⟩⟩
    |false=>
     simp only[Bool.false_eq_true,if_false];exact Au ⟨rfl,v,2*v+1,rfl,by lia,by lia,e2,by lia⟩
  ·rintro c aW ⟨rfl,u,v,rfl,a1,a2,a3,a4⟩;exact⟨rfl,u,v,rfl,a1,a2,a3, .inl A3⟩
  ·rintro c aW ⟨rfl,u,v,rfl,a1,a2,a3,a4⟩;dsimp only;refine Eq.mp ja (bin (h+1-min v (h+1)) (h-u) (by lia) (by lia) (λi hi=>?_) λi hi pW=>yB (h-u) i a3);rcases a4 with a4|⟨a4,a5⟩
   ·lia
   ·exact dn i (h-v) (by lia) (by lia) a5
end
def setG(g:Nat):StateT SortSt Sem Unit:=modify λst=>SortSt.mk' (kindOf st) (AE st) (Al st) g (XY st)
def Jl(a b out:Array Keyed)(i j:Nat):Array Keyed:=out++a.extract i a.size++b.extract j b.size
def Py(a b out:Array Keyed)(i j:Nat):Array Keyed:=out++b.extract j b.size++a.extract i a.size
abbrev S1:=Option (J5 Keyed)×Array Keyed×Nat×Nat×Nat×Nat
abbrev S2:=Option (J5 Keyed)×Array Keyed×Nat×Nat×Nat×Nat×Nat
abbrev S3:=Option (J5 Keyed)×Array Keyed×Nat×Nat×Nat
def lo1(a b:Array Keyed)(mg:Nat)(c:S1):StateT SortSt Sem (Di S1):=do
 let y<-Hq c.2.2.2.1
 let x<-ID c.2.2.1
 let z<-lt' y x
 match z with
 |some bw=>
  if bw=true then do
   let y<-Hq c.2.2.2.1
   if (c.2.2.2.1+1==b.size)=true then pure (.done (some (Iy (JC y) c.2.2.1 (c.2.2.2.1+1)),JC y,c.2.2.1,c.2.2.2.1+1,0,c.2.2.2.2.2+1))
   else if c.2.2.2.2.2+1>=mg then pure (.done (none,JC y,c.2.2.1,c.2.2.2.1+1,0,c.2.2.2.2.2+1))
   else pure (.yield (none,JC y,c.2.2.1,c.2.2.2.1+1,0,c.2.2.2.2.2+1))
  else do
   let x<-ID c.2.2.1
   if (c.2.2.1+1+1==a.size)=true then pure (.done (some (Py a b (JC x) (c.2.2.1+1) c.2.2.2.1),JC x,c.2.2.1+1,c.2.2.2.1,c.2.2.2.2.1+1,0))
   else if c.2.2.2.2.1+1>=mg then pure (.done (none,JC x,c.2.2.1+1,c.2.2.2.1,c.2.2.2.2.1+1,0))
   else pure (.yield (none,JC x,c.2.2.1+1,c.2.2.2.1,c.2.2.2.2.1+1,0))
 | _=>BQ (.done (some (Iy c.2.1 c.2.2.1 c.2.2.2.1),c.2.1,c.2.2.1,c.2.2.2.1,c.2.2.2.2.1,c.2.2.2.2.2))
def TY(a b o:Array Keyed)(i j mg k l:Nat):StateT SortSt Sem (Di S2):=do
 let x<-ID i
 if (i+1+1==a.size)=true then pure (.done (some (Py a b (DM x) (i+1) j),DM x,i+1,j,mg,k,l))
 else if (decide (k<7)&&decide (l<7))=true then pure (.done (none,DM x,i+1,j,mg,k,l))
 else pure (.yield (none,DM x,i+1,j,mg,k,l))
def Wc(a b o:Array Keyed)(i j mg k bc:Nat):StateT SortSt Sem (Di S2):=do
 let x<-ID i
 let z<-AG true x b j (b.size-j) 0
 match z with
 |some l=>if l>0 then(if (j+l==b.size)=true then pure (.done (some (Iy (o++b.extract j (j+l)) i (j+l)),o++b.extract j (j+l),i,j+l,mg,k,l))else TY a b (o++b.extract j (j+l)) i (j+l) mg k l)else TY a b o i j mg k l
 | _=>BQ (.done (some (Iy o i j),o,i,j,mg,k,bc))
def T8(a b o:Array Keyed)(i j mg k bc:Nat):StateT SortSt Sem (Di S2):=do
 let y<-Hq j
 if (j+1==b.size)=true then pure (.done (some (Iy (DM y) i (j+1)),DM y,i,j+1,mg,k,bc))else Wc a b (DM y) i (j+1) mg k bc
def T9(a b o:Array Keyed)(i j mg ac bc:Nat):StateT SortSt Sem (Di S2):=do
 setG mg
 let y<-Hq j
 let z<-AG false y a i (a.size-i) 0
 match z with
 |some k=>if k>0 then(if (i+k+1==a.size)=true then pure (.done (some (Py a b (o++a.extract i (i+k)) (i+k) j),o++a.extract i (i+k),i+k,j,mg,k,bc))else if (i+k==a.size)=true then pure (.done (some (Iy (o++a.extract i (i+k)) (i+k) j),o++a.extract i (i+k),i+k,j,mg,k,bc))else T8 a b (o++a.extract i (i+k)) (i+k) j mg k bc)else T8 a b o i j mg k bc
 | _=>BQ (.done (some (Iy o i j),o,i,j,mg,ac,bc))
def Wd(a b:Array Keyed)(c:S2):StateT SortSt Sem (Di S2):=if c.2.2.2.2.1>1 then T9 a b c.2.1 c.2.2.1 c.2.2.2.1 (c.2.2.2.2.1-1) c.2.2.2.2.2.1 c.2.2.2.2.2.2 else T9 a b c.2.1 c.2.2.1 c.2.2.2.1 c.2.2.2.2.1 c.2.2.2.2.2.1 c.2.2.2.2.2.2
def We(a b:Array Keyed)(c:S3):StateT SortSt Sem (Di S3):=do
 let t<-forIn [0:a.size+b.size] ((none,c.2.1,c.2.2.1,c.2.2.2.1,0,0):S1) (λ_=>lo1 a b c.2.2.2.2)
 match t.1 with
 |some r=>BQ (.done (some r,t.2.1,t.2.2.1,t.2.2.2.1,c.2.2.2.2))
 |none=>do
  liftM (rule "list.sort.gallop")
  let u<-forIn [0:a.size+b.size] ((none,t.2.1,t.2.2.1,t.2.2.2.1,c.2.2.2.2+1,t.2.2.2.2.1,t.2.2.2.2.2):S2) (λ_=>Wd a b)
  match u.1 with
  |some r=>BQ (.done (some r,u.2.1,u.2.2.1,u.2.2.2.1,u.2.2.2.2.1))
  |none=>do
   setG (u.2.2.2.2.1+1)
   pure (.yield (none,u.2.1,u.2.2.1,u.2.2.2.1,u.2.2.2.2.1+1))
theorem aqW(a b:_):NY a b=(do
 liftM (rule "list.sort.merge-lo")
 let y<-Hq 0
 if (1==b.size)=true then pure (Jl a b #[y] 0 1)
 else if (0+1==a.size)=true then pure (Py a b #[y] 0 1)
 else do
  let g<-get
  let t<-forIn [0:a.size+b.size] ((none,#[y],0,1,gallopOf g):S3) (λ_=>We a b)
  match t.1 with
  |some r=>BQ r
  |none=>unsupported "internal:list.sort.merge-bound"):=by kernel_rfl
def Jm(a b o:Array Keyed)(i j:Nat):Array Keyed:=a.extract 0 i++b.extract 0 j++o.reverse
def Pz(a b o:Array Keyed)(i j:Nat):Array Keyed:=b.extract 0 j++a.extract 0 i++o.reverse
abbrev T1:=Option (J5 Keyed)×Nat×Nat×Array Keyed×Nat×Nat
abbrev T2:=Option (J5 Keyed)×Nat×Nat×Array Keyed×Nat×Nat×Nat
abbrev T3:=Option (J5 Keyed)×Nat×Nat×Array Keyed×Nat
def Wf(a b:Array Keyed)(mg:Nat)(c:T1):StateT SortSt Sem (Di T1):=do
 let y<-Hq (c.2.2.1-1)
 let x<-ID (c.2.1-1)
 let z<-lt' y x
 match z with
 |some aw=>
  if aw=true then do
   let x<-ID (c.2.1-1)
   if (c.2.1-1==0)=true then pure (.done (some (Ia (J2 x) (c.2.1-1) c.2.2.1),c.2.1-1,c.2.2.1,J2 x,c.2.2.2.2.1+1,0))
   else if c.2.2.2.2.1+1>=mg then pure (.done (none,c.2.1-1,c.2.2.1,J2 x,c.2.2.2.2.1+1,0))
   else pure (.yield (none,c.2.1-1,c.2.2.1,J2 x,c.2.2.2.2.1+1,0))
  else do
   let y<-Hq (c.2.2.1-1)
   if (c.2.2.1-1==1)=true then pure (.done (some (Pz a b (J2 y) c.2.1 (c.2.2.1-1)),c.2.1,c.2.2.1-1,J2 y,0,c.2.2.2.2.2+1))
   else if c.2.2.2.2.2+1>=mg then pure (.done (none,c.2.1,c.2.2.1-1,J2 y,0,c.2.2.2.2.2+1))
   else pure (.yield (none,c.2.1,c.2.2.1-1,J2 y,0,c.2.2.2.2.2+1))
 | _=>BQ (.done (some (Ia c.2.2.2.1 c.2.1 c.2.2.1),c.2.1,c.2.2.1,c.2.2.2.1,c.2.2.2.2.1,c.2.2.2.2.2))
def T_(a b o:Array Keyed)(i j mg k l:Nat):StateT SortSt Sem (Di T2):=do
 let x<-ID (i-1)
 if (i-1==0)=true then pure (.done (some (Ia (DM x) (i-1) j),i-1,j,DM x,mg,k,l))
 else if (decide (k<7)&&decide (l<7))=true then pure (.done (none,i-1,j,DM x,mg,k,l))
 else pure (.yield (none,i-1,j,DM x,mg,k,l))
def Wg(a b o:Array Keyed)(i j mg k bc:Nat):StateT SortSt Sem (Di T2):=do
 let x<-ID (i-1)
 let z<-AG true x b 0 j (j-1)
 match z with
 |some t=>if j-t>0 then(if (t==1)=true then pure (.done (some (Pz a b (o++(Np j).reverse) i t),i,t,o++(Np j).reverse,mg,k,j-t))else if (t==0)=true then pure (.done (some (Ia (o++(Np j).reverse) i t),i,t,o++(Np j).reverse,mg,k,j-t))else T_ a b (o++(Np j).reverse) i t mg k (j-t))else T_ a b o i j mg k (j-t)
 | _=>BQ (.done (some (Ia o i j),i,j,o,mg,k,bc))
def Ua(a b o:Array Keyed)(i j mg k bc:Nat):StateT SortSt Sem (Di T2):=do
 let y<-Hq (j-1)
 if (j-1==1)=true then pure (.done (some (Pz a b (DM y) i (j-1)),i,j-1,DM y,mg,k,bc))else Wg a b (DM y) i (j-1) mg k bc
def Jn(a b o:Array Keyed)(i j mg ac bc:Nat):StateT SortSt Sem (Di T2):=do
 setG mg
 let y<-Hq (j-1)
 let z<-AG false y a 0 i (i-1)
 match z with
 |some t=>if i-t>0 then(if (t==0)=true then pure (.done (some (Ia (o++(YB i).reverse) t j),t,j,o++(YB i).reverse,mg,i-t,bc))else Ua a b (o++(YB i).reverse) t j mg (i-t) bc)else Ua a b o i j mg (i-t) bc
 | _=>BQ (.done (some (Ia o i j),i,j,o,mg,ac,bc))
def Wh(a b:Array Keyed)(c:T2):StateT SortSt Sem (Di T2):=if c.2.2.2.2.1>1 then Jn a b c.2.2.2.1 c.2.1 c.2.2.1 (c.2.2.2.2.1-1) c.2.2.2.2.2.1 c.2.2.2.2.2.2 else Jn a b c.2.2.2.1 c.2.1 c.2.2.1 c.2.2.2.2.1 c.2.2.2.2.2.1 c.2.2.2.2.2.2
def Wi(a b:Array Keyed)(c:T3):StateT SortSt Sem (Di T3):=do
 let t<-forIn [0:a.size+b.size] ((none,c.2.1,c.2.2.1,c.2.2.2.1,0,0):T1) (λ_=>Wf a b c.2.2.2.2)
 match t.1 with
 |some r=>BQ (.done (some r,t.2.1,t.2.2.1,t.2.2.2.1,c.2.2.2.2))
 |none=>do
  liftM (rule "list.sort.gallop")
  let u<-forIn [0:a.size+b.size] ((none,t.2.1,t.2.2.1,t.2.2.2.1,c.2.2.2.2+1,t.2.2.2.2.1,t.2.2.2.2.2):T2) (λ_=>Wh a b)
  match u.1 with
  |some r=>BQ (.done (some r,u.2.1,u.2.2.1,u.2.2.2.1,u.2.2.2.2.1))
  |none=>do
   setG (u.2.2.2.2.1+1)
   pure (.yield (none,u.2.1,u.2.2.1,u.2.2.2.1,u.2.2.2.2.1+1))
theorem avu(a b:_):NZ a b=(do
 liftM (rule "list.sort.merge-hi")
 let x<-ID (a.size-1)
 if (a.size-1==0)=true then pure (Jm a b #[x] (a.size-1) b.size)
 else if (b.size==1)=true then pure (Pz a b #[x] (a.size-1) b.size)
 else do
  let g<-get
  let t<-forIn [0:a.size+b.size] ((none,a.size-1,b.size,#[x],gallopOf g):T3) (λ_=>Wi a b)
  match t.1 with
  |some r=>BQ r
  |none=>unsupported "internal:list.sort.merge-bound"):=by kernel_rfl
theorem mR{α:Type}{l:List α}{x:α}:x∈l.drop i↔∃t:Nat,l[i+t]?=some x:=by
 rw[List.mem_iff_getElem?];simp only[List.getElem?_drop]
theorem uN{α:Type}{l:List α}{x:α}:x∈(l.drop i).take k↔∃t:Nat,t<k/\l[i+t]?=some x:=by
 rw[List.mem_iff_getElem?];constructor
 ·rintro⟨t,ht⟩;rw[List.getElem?_take]at ht;split at ht
  ·rw[List.getElem?_drop]at ht;exact⟨t,by assumption,ht⟩
  ·cases ht
 ·rintro⟨t,h1,h2⟩;exact⟨t,by rw[List.getElem?_take,A7 h1,List.getElem?_drop];exact h2⟩
theorem qp{α:Type}{l:List α}{x:α}(h:l[i]?=some x):l.drop i=x::l.drop (i+1):=by
 obtain⟨h1,h2⟩:=AM h;rw[Zv h1,h2]
theorem qr{α:Type}(l:List α)(i k:_):l.drop i=(l.drop i).take k++l.drop (i+k):=by
 rw[<-List.drop_drop,List.take_append_drop]
abbrev Pw(lt:Keyed->Keyed->Bool)(l:List Keyed):Prop:=l.Pairwise λx y=>lt x y=true
theorem Pw.at{lt}(h:Pw lt l){i j:Nat}(vV:i<j)(hx:l[i]?=some x)(hy:l[j]?=some y):lt x y=true:=by
 obtain⟨h1,e1⟩:=AM hx;obtain⟨h2,e2⟩:=AM hy;have:=List.pairwise_iff_getElem.mp h i j h1 h2 vV;rw[e1,e2]at this;exact this
section
variable{X:List Keyed}{lt:Keyed->Keyed->Bool}{P Q:List Keyed}
structure MC(X:List Keyed)(lt:Keyed->Keyed->Bool)(P Q:List Keyed):Prop where
 sa:Pw lt P
 sb:Pw lt Q
 ia:∀x∈P,x∈X
 ib:∀x∈Q,x∈X
 ne:∀x∈P,∀y∈Q,x≠y
 fst:∀x∈P,∀y,Q[0]?=some y->lt y x=true
 lst:∀y∈Q,∀x,P[P.length-1]?=some x->lt y x=true
structure ML(lt:Keyed->Keyed->Bool)(P Q O:List Keyed)(i j:Nat):Prop where
 hi:i<=P.length
 hj:j<=Q.length
 uO:Pw lt O
 low:∀x∈O,∀y,y∈P.drop i∨y∈Q.drop j->lt x y=true
 KJ:(O++(P.drop i++Q.drop j)).Perm (P++Q)
def MG(lt:Keyed->Keyed->Bool)(P Q R:List Keyed):Prop:=R.Perm (P++Q)/\Pw lt R
theorem ML.a{i j k}(M:MC X lt P Q)(m:ML lt P Q O i j)(hk:i+k<=P.length)(h:∀x∈(NV i).take k,∀y∈Q.drop j,lt x y=true):ML lt P Q (O++(NV i).take k) (i+k) j:=by
 have sp:=qr P i k;have sd:Pw lt (NV i):=NC L1;rw[sp]at sd;obtain⟨s1,s2,s3⟩:=Et sd;refine⟨hk,m.hj,FU ⟨m.uO,s1,λx hx y hy=>N8 (.inl rC)⟩,λx hx y hy=>?_,?_⟩
 ·rcases List.mem_append.mp hx with hx|hx
  ·exact N8 (hy.imp (λz=>by rw[sp];exact Cn z) id)
  ·rcases hy with hy|hy
   ·exact SH y
   ·exact h x hx y hy
 ·have:=m.KJ;rw[sp]at this;rw[List.append_assoc,<-wF ((NV i).take k)];exact this
theorem ML.b{i j k}(M:MC X lt P Q)(m:ML lt P Q O i j)(hk:j+k<=Q.length)(h:∀y∈(Qx j).take k,∀x∈P.drop i,lt y x=true):ML lt P Q (O++(Qx j).take k) i (j+k):=by
 have sp:=qr Q j k;have sd:Pw lt (Qx j):=NW L1;rw[sp]at sd;obtain⟨s1,s2,s3⟩:=Et sd;refine⟨m.hi,hk,FU ⟨m.uO,s1,λx hx y hy=>N8 (.inr rC)⟩,λx hx y hy=>?_,?_⟩
 ·rcases List.mem_append.mp hx with hx|hx
  ·exact N8 (hy.imp id (λz=>by rw[sp];exact Cn z))
  ·rcases hy with hy|hy
   ·exact h x hx y hy
   ·exact SH y
 ·have:=m.KJ;rw[sp]at this;refine List.Perm.trans ?_ this;rw[List.append_assoc];refine List.Perm.append_left O ?_;rw[<-List.append_assoc,<-List.append_assoc];exact List.Perm.append_right _ List.perm_append_comm
theorem ML.dn(M:MC X lt P Q)(m:ML lt P Q O i j)(h:i=P.length∨j=Q.length):MG lt P Q (O++P.drop i++Q.drop j):=by
 refine⟨by rw[List.append_assoc];exact m.KJ,?_⟩;have sa:Pw lt (NV i):=NC L1;have sb:Pw lt (Qx j):=NW L1;rw[List.append_assoc];refine List.pairwise_append.mpr ⟨m.uO,FU ⟨sa,sb,λx hx y hy=>?_⟩,λx hx y hy=>N8 (K2 hy)⟩;rcases h with h|h
 ·rw[h,List.drop_length]at hx;cases hx
 ·rw[h,List.drop_length]at hy;cases hy
theorem ML.ls(M:MC X lt P Q)(m:ML lt P Q O i j)(h:i+1=P.length):MG lt P Q (O++Q.drop j++P.drop i):=by
 have sa:Pw lt (NV i):=NC L1;have sb:Pw lt (Qx j):=NW L1;rw[List.append_assoc];refine⟨(List.Perm.append_left O List.perm_append_comm).trans m.KJ,FU ⟨m.uO,FU ⟨sb,sa,λy hy x hx=>?_⟩,λx hx y hy=>N8 (K2 hy).symm⟩⟩;obtain⟨t,ht⟩:=mR.mp hx;have hl:=(AM ht).1;exact M.lst y (Ob hy) x (by rw[<-ht];congr 1;lia)
end
def Eg(st aW:SortSt):Prop:=kindOf aW=kindOf st/\arrOf aW=arrOf st/\pendingOf aW=pendingOf st/\failedOf aW=failedOf st
theorem Eg.refl (st):Eg st st:=⟨rfl,rfl,rfl,rfl⟩
theorem Eg.trans{a b:SortSt}(h:Eg a b)(k:Eg b c):Eg a c:=⟨k.1.trans h.1,k.2.1.trans h.2.1,k.2.2.1.trans h.2.2.1,k.2.2.2.trans h.2.2.2⟩
section
variable{prog:Program}{w:World}{A:Around}{E:Value->Shared->Prop}{s:Shared}{X:List Keyed}{κ:SortKind}{lt:Keyed->Keyed->Bool}(C:HN prog w A s X κ lt){a b:Array Keyed}(M:MC X lt a.toList b.toList)
theorem uh{st:SortSt}(h:∀aW,Eg st aW->Q () aW):wpS AR A E s (setG g) Q st:=Qh (h _ ⟨rfl,rfl,rfl,rfl⟩)
theorem AH (o) (i j:_):(Iy o i j).toList=o.toList++a.toList.drop i++b.toList.drop j:=by
 unfold Jl;simp[Array.toList_extract,List.extract_eq_take_drop];rw[List.take_of_length_le A9,List.take_of_length_le A9]
theorem DY (o) (i j:_):(Py a b o i j).toList=o.toList++b.toList.drop j++a.toList.drop i:=by
 unfold Py;simp[Array.toList_extract,List.extract_eq_take_drop];rw[List.take_of_length_le A9,List.take_of_length_le A9]
theorem acD (o) (c:Array Keyed) (i k:_):(o++c.extract i (i+k)).toList=o.toList++(c.toList.drop i).take k:=by
 simp[Array.toList_extract,List.extract_eq_take_drop]
theorem Jo{l:List Keyed}(h:l[i]?=some x):(l.drop i).take 1=[x]:=by rw[qp h];simp
def DZ(lt:Keyed->Keyed->Bool)(a b:Array Keyed)(o:Array Keyed)(i j m:Nat):Prop:=ML lt a.toList b.toList o.toList i j/\i+1<a.size/\j<b.size/\m<=i+j
def P2(lt:Keyed->Keyed->Bool)(a b:Array Keyed)(m:Nat)(st:SortSt)(r:ForInStep S2)(aW:SortSt):Prop:=Eg st aW/\match r with
 | .done c=>(∃x,c.1=some x/\MG lt a.toList b.toList x.toList)∨(c.1=none/\DZ lt a b c.2.1 c.2.2.1 c.2.2.2.1 m)
 | .yield c=>c.1=none/\DZ lt a b c.2.1 c.2.2.1 c.2.2.2.1 m
include C M
theorem aaA{st:SortSt}{o}{j:Nat}(ml:ML lt a.toList b.toList o.toList i j)(hi:i+1<a.size)(hj:j<b.size)(hm:m<=i+j+1)(h:∀x,a.toList[i]?=some x->∀y∈b.toList.drop j,lt x y=true):wpS AR A E s (TY a b o i j mg k l) (KU m st) st:=by
 unfold TY;have ex:a[i]?=some a[i]:=AA;have ie:a.toList[i]?=some a[i]:=by rw[Array.getElem?_toList];exact ex
 refine wpS_bind GU;have m2:ML lt a.toList b.toList (o.push a[i]).toList (i+1) j:=by
  have:=ml.a M (k:=1) (by simp;lia) (λx hx y hy=>by
   rw[Jo ie]at hx;have:x=a[i]:=by simpa using hx
   rw[this];exact h _ ie y hy)
  rw[Jo ie]at this;rw[Array.toList_push];exact this
 by_cases e:(i+1+1==a.size)=true
 ·rw[A7 e];refine wpS_pure ⟨.refl _, .inl ⟨_,rfl,?_⟩⟩;rw[DY];exact m2.ls M (by have:=beq_iff_eq.mp e;simp;lia)
 ·rw[A6 e];have e:i+1+1≠a.size:=λz=>e Cw
  split
  ·exact Au ⟨.refl _, .inr ⟨rfl,m2,by show i+1+1<a.size;lia,hj,by show m<=i+1+j;lia⟩⟩
  ·exact Au ⟨.refl _,rfl,m2,by show i+1+1<a.size;lia,hj,by show m<=i+1+j;lia⟩
theorem akh{st:SortSt}{o}(hk:kindOf st=κ)(ml:ML lt a.toList b.toList o.toList i j)(hi:i+1<a.size)(hj:j<b.size)(hm:m<=i+j+1):wpS AR A E s (Wc a b o i j mg k bc) (KU m st) st:=by
 unfold Wc;have ex:a[i]?=some a[i]:=AA;have ie:a.toList[i]?=some a[i]:=by rw[Array.getElem?_toList];exact ex
 have hx:a[i]∈a.toList:=B7 ie;refine wpS_bind GU;generalize a[i]=x at ex ie hx;have gb:∀t,t<b.size-j->b[j+t]?=some (N0 (j+t)):=λt ht=>by simp[show j+t<b.size by lia]
 have tK:∀t,t<b.size-j->b.toList[j+t]?=some (N0 (j+t)):=λt ht=>by rw[Array.getElem?_toList];exact N4 t
 refine wpS_bind (rN C (λt=>N0 (j+t)) hk Vj (λt ht=>⟨N4 t,Fp Rq⟩) (λt u h1 h2=>M.sb.at (i:=j+t) (j:=j+u) (by lia) (Ho t) (tK u h2)) (by lia) λl hl h1 h2=>?_);dsimp only;have low:∀y∈(b.toList.drop j).take l,∀z∈a.toList.drop i,lt y z=true:=λy hy z hz=>by
  obtain⟨t,ht,et⟩:=uN.mp hy;rw[Ho t]at et;cases et;have hb:=h1 t ht;simp only[mz,if_true]at hb;rw[qp ie]at hz;rcases List.mem_cons.mp hz with rfl|hz
  ·exact hb
  ·obtain⟨u,hu⟩:=mR.mp hz;exact afZ (Fp (B7 VW)) hb
 have BC:∀y∈b.toList.drop (j+l),lt x y=true:=λy hy=>by
  obtain⟨t,ht⟩:=mR.mp hy;have iO:=(AM ht).1;have iO:j+l+t<b.size:=by simpa using iO
  have hb:=alK (l+t);have e:b.toList[j+(l+t)]?=some y:=by rw[<-Nat.add_assoc];exact ht
  rw[Ho (l+t)]at e;have e:=Aw e;simp only[mz,if_true]at hb;rw[e]at hb;exact aqz (Fp (B7 ht)) (λz=>XH hx (B7 ht))
 have m2:ML lt a.toList b.toList (o++b.extract j (j+l)).toList i (j+l):=by
  rw[acD];exact ml.b M (by simp;lia) low
 by_cases N1:l>0
 ·rw[A7 N1];by_cases e:(j+l==b.size)=true
  ·rw[A7 e];refine wpS_pure ⟨.refl _, .inl ⟨_,rfl,?_⟩⟩;rw[AH];exact m2.dn M (.inr (by have:=beq_iff_eq.mp e;simpa using this))
  ·rw[A6 e];have e:j+l≠b.size:=λz=>e Cw
   exact aaA C M m2 hi A3 (by lia) λy hy=>by rw[ie]at hy;cases hy;exact BC
 ·rw[A6 N1];have:l=0:=by lia
  subst this;exact aaA C M ml hi hj hm λy hy=>by rw[ie]at hy;cases hy;exact BC
theorem acZ{st:SortSt}{o}{i:Nat}(hk:kindOf st=κ)(ml:ML lt a.toList b.toList o.toList i j)(hi:i+1<a.size)(hj:j<b.size)(hm:m<=i+j+2)(h:∀y,b.toList[j]?=some y->∀x∈a.toList.drop i,lt y x=true):wpS AR A E s (T8 a b o i j mg k bc) (KU m st) st:=by
 unfold T8;have ex:b[j]?=some b[j]:=AA;have ie:b.toList[j]?=some b[j]:=by rw[Array.getElem?_toList];exact ex
 refine wpS_bind GU;have m2:ML lt a.toList b.toList (o.push b[j]).toList i (j+1):=by
  have:=ml.b M (k:=1) (by simp;lia) (λx hx y hy=>by
   rw[Jo ie]at hx;have:x=b[j]:=by simpa using hx
   rw[this];exact h _ ie y hy)
  rw[Jo ie]at this;rw[Array.toList_push];exact this
 by_cases e:(j+1==b.size)=true
 ·rw[A7 e];refine wpS_pure ⟨.refl _, .inl ⟨_,rfl,?_⟩⟩;rw[AH];exact m2.dn M (.inr (by have:=beq_iff_eq.mp e;simpa using this))
 ·rw[A6 e];have e:j+1≠b.size:=λz=>e Cw
  exact akh C M hk m2 hi A3 (by lia)
theorem aam{st:SortSt}(hk:kindOf st=κ)(h:DZ lt a b o i j m):wpS AR A E s (T9 a b o i j mg ac bc) (KU (m+2) st) st:=by
 obtain⟨ml,hi,hj,hm⟩:=h;unfold T9;refine wpS_bind (uh λCq eg=>?_);have L9:kindOf Cq=κ:=YV hk;have fin:∀{m:Nat}{p:StateT SortSt Sem (Di S2)},wpS AR A E s p (KU m Cq) Cq->wpS AR A E s p (KU m st) Cq:=λh=>wpS_mono h λr aW z=>⟨Fb z.1,z.2⟩
 refine fin ?_;have ex:b[j]?=some b[j]:=AA;have ie:b.toList[j]?=some b[j]:=by rw[Array.getElem?_toList];exact ex
 have hx:b[j]∈b.toList:=B7 ie;refine wpS_bind GU;generalize b[j]=y at ex ie hx;have gb:∀t,t<a.size-i->a[i+t]?=some (Kd (i+t)):=λt ht=>by simp[show i+t<a.size by lia]
 have tK:∀t,t<a.size-i->a.toList[i+t]?=some (Kd (i+t)):=λt ht=>by rw[Array.getElem?_toList];exact N4 t
 refine wpS_bind (rN C (λt=>Kd (i+t)) L9 YY (λt ht=>⟨N4 t,IJ Rq⟩) (λt u h1 h2=>M.sa.at (i:=i+t) (j:=i+u) (by lia) (Ho t) (tK u h2)) (by lia) λk hl h1 h2=>?_);dsimp only;have low:∀x∈(a.toList.drop i).take k,∀z∈b.toList.drop j,lt x z=true:=λx tw z hz=>by
  obtain⟨t,ht,et⟩:=uN.mp tw;rw[Ho t]at et;cases et;have jK:=B7 VW;have hb:=h1 t ht;simp only[mz,Bool.false_eq_true,if_false,Bool.not_eq_true']at hb;have hb:=C.no YY (IJ jK) (λz=>XH jK hx) hb;rw[qp ie]at hz;rcases List.mem_cons.mp hz with rfl|hz
  ·exact hb
  ·obtain⟨u,hu⟩:=mR.mp hz;exact akn (IJ jK) (Fp hx) hb (M.sb.at A3 ie hu)
 have BC:∀x∈a.toList.drop (i+k),lt y x=true:=λx tw=>by
  obtain⟨t,ht⟩:=mR.mp tw;have iO:=(AM ht).1;have iO:i+k+t<a.size:=by simpa using iO
  have hb:=alK (k+t);have e:a.toList[i+(k+t)]?=some x:=by rw[<-Nat.add_assoc];exact ht
  rw[Ho (k+t)]at e;have e:=Aw e;simp only[mz,Bool.false_eq_true,if_false,Bool.not_eq_false']at hb;rw[e]at hb;exact hb
 have m2:ML lt a.toList b.toList (o++a.extract i (i+k)).toList (i+k) j:=by
  rw[acD];exact ml.a M (by simp;lia) low
 by_cases xP:k>0
 ·rw[A7 xP];by_cases e:(i+k+1==a.size)=true
  ·rw[A7 e];refine wpS_pure ⟨.refl _, .inl ⟨_,rfl,?_⟩⟩;rw[DY];exact m2.ls M (by have:=beq_iff_eq.mp e;simpa using this)
  ·rw[A6 e];have e:i+k+1≠a.size:=λz=>e Cw
   by_cases e2:(i+k==a.size)=true
   ·rw[A7 e2];refine wpS_pure ⟨.refl _, .inl ⟨_,rfl,?_⟩⟩;rw[AH];exact Yo (.inl (by have:=beq_iff_eq.mp e2;simpa using this))
   ·rw[A6 e2];have e2:i+k≠a.size:=λz=>e2 Cw
    exact acZ C M L9 m2 A3 hj A3 λz hz=>by rw[ie]at hz;cases hz;exact BC
 ·rw[A6 xP];have:k=0:=by lia
  subst this;exact acZ C M L9 ml hi hj A3 λz hz=>by rw[ie]at hz;cases hz;exact BC
theorem akq{st:SortSt}{c}(hk:kindOf st=κ)(h:DZ lt a b c.2.1 c.2.2.1 c.2.2.2.1 m):wpS AR A E s (Wd a b c) (KU (m+2) st) st:=by
 unfold Wd;split
 ·exact aam C M hk h
 ·exact aam C M hk h
theorem arb{st:SortSt}{c}(hk:kindOf st=κ)(h:DZ lt a b c.2.1 c.2.2.1 c.2.2.2.1 m):wpS AR A E s (lo1 a b mg c) (λr aW=>aW=st/\match r with
  | .done c=>(∃x,c.1=some x/\MG lt a.toList b.toList x.toList)∨(c.1=none/\DZ lt a b c.2.1 c.2.2.1 c.2.2.2.1 (m+1))
  | .yield c=>c.1=none/\DZ lt a b c.2.1 c.2.2.1 c.2.2.2.1 (m+1)) st:=by
 obtain⟨r,o,i,j,ac,bc⟩:=c;obtain⟨ml,hi,hj,hm⟩:=h;dsimp only at ml hi hj hm;unfold lo1;dsimp only;have ex:a[i]?=some a[i]:=AA;have ie:a.toList[i]?=some a[i]:=by rw[Array.getElem?_toList];exact ex
 have ey:b[j]?=some b[j]:=AA;have BD:b.toList[j]?=some b[j]:=by rw[Array.getElem?_toList];exact ey
 have hx:a[i]∈a.toList:=B7 ie;have hy:b[j]∈b.toList:=B7 BD;refine wpS_bind (zE ey);generalize a[i]=x at ex ie hx;generalize b[j]=y at ey BD hy;refine wpS_bind att;dsimp only;cases e:lt y x with
 |true=>
  rw[if_pos rfl];refine wpS_bind dB;have m2:ML lt a.toList b.toList (DM y).toList i (j+1):=by
   have:=ml.b M (k:=1) (by simp;lia) (λy' RM z hz=>by
    rw[Jo BD]at RM;have:y'=y:=by simpa using RM
    rw[this];rw[qp ie]at hz;rcases List.mem_cons.mp hz with rfl|hz
    ·exact e
    ·obtain⟨u,hu⟩:=mR.mp hz;exact afZ vR e)
   rw[Jo BD]at this;rw[Array.toList_push];exact this
  by_cases e2:(j+1==b.size)=true
  ·rw[A7 e2];refine wpS_pure ⟨rfl, .inl ⟨_,rfl,?_⟩⟩;rw[AH];exact Yo (.inr (by have:=beq_iff_eq.mp e2;simpa using this))
  ·rw[A6 e2];have e2:j+1≠b.size:=λz=>e2 Cw
   split
   ·exact Au ⟨rfl, .inr ⟨rfl,m2,hi,by show j+1<b.size;lia,by show m+1<=i+(j+1);lia⟩⟩
   ·exact Au ⟨rfl,rfl,m2,hi,by show j+1<b.size;lia,by show m+1<=i+(j+1);lia⟩
 |false=>
  rw[if_neg A9];refine wpS_bind GU;have e:=ahY e;have m2:ML lt a.toList b.toList (DM x).toList (i+1) j:=by
   have:=ml.a M (k:=1) (by simp;lia) (λx' tw z hz=>by
    rw[Jo ie]at tw;have:x'=x:=by simpa using tw
    rw[this];rw[qp BD]at hz;rcases List.mem_cons.mp hz with rfl|hz
    ·exact e
    ·obtain⟨u,hu⟩:=mR.mp hz;exact akn Vj (Fp hy) e (M.sb.at A3 BD hu))
   rw[Jo ie]at this;rw[Array.toList_push];exact this
  by_cases e2:(i+1+1==a.size)=true
  ·rw[A7 e2];refine wpS_pure ⟨rfl, .inl ⟨_,rfl,?_⟩⟩;rw[DY];exact m2.ls M (by have:=beq_iff_eq.mp e2;simpa using this)
  ·rw[A6 e2];have e2:i+1+1≠a.size:=λz=>e2 Cw
   split
   ·exact Au ⟨rfl, .inr ⟨rfl,m2,by show i+1+1<a.size;lia,hj,by show m+1<=i+1+j;lia⟩⟩
   ·exact Au ⟨rfl,rfl,m2,by show i+1+1<a.size;lia,hj,by show m+1<=i+1+j;lia⟩
theorem arA{st:SortSt}{c}(hk:kindOf st=κ)(h:DZ lt a b c.2.1 c.2.2.1 c.2.2.2.1 m):wpS AR A E s (We a b c) (λr aW=>Eg st aW/\match r with
  | .done c=>∃x,c.1=some x/\MG lt a.toList b.toList x.toList
  | .yield c=>c.1=none/\DZ lt a b c.2.1 c.2.2.1 c.2.2.2.1 (m+1)) st:=by
 unfold We;refine wpS_bind (FP (IP (I:=λx c aW=>aW=st/\c.1=none/\DZ lt a b c.2.1 c.2.2.1 c.2.2.2.1 (m+x)) (Q:=λc aW=>aW=st/\((∃x,c.1=some x/\MG lt a.toList b.toList x.toList)∨(c.1=none/\DZ lt a b c.2.1 c.2.2.1 c.2.2.2.1 (m+1)))) ⟨rfl,rfl,h⟩))
 ·rintro x c aW _ hx ⟨rfl,hc,hI⟩;refine wpS_mono (arb C M hk hI) λr aW hr=>?_
  obtain⟨rfl,hr⟩:=hr;cases r with
  |done c=>exact⟨rfl,hr.imp id λz=>⟨z.1,z.2.1,z.2.2.1,z.2.2.2.1,by have:=z.2.2.2.2;lia⟩⟩
  |yield c=>exact⟨rfl,hr.1,hr.2⟩
 ·rintro c aW ⟨rfl,hc,h1,h2,h3,h4⟩
  lia
 rintro t aW ⟨rfl,ht⟩;rcases ht with⟨x,e,hg⟩|⟨e,hI⟩
 ·rw[e];exact Au ⟨.refl _,x,rfl,hg⟩
 rw[e];dsimp only;refine wpS_bind LD;refine wpS_bind (FP (IP (I:=λx c eh=>Eg aW eh/\c.1=none/\DZ lt a b c.2.1 c.2.2.1 c.2.2.2.1 (m+1+x)) (Q:=λc eh=>Eg aW eh/\((∃x,c.1=some x/\MG lt a.toList b.toList x.toList)∨(c.1=none/\DZ lt a b c.2.1 c.2.2.1 c.2.2.2.1 (m+1)))) ⟨.refl _,rfl,hI⟩))
 ·rintro x c eh _ hx ⟨eg,hc,hI⟩;refine wpS_mono (akq C M Yn hI) λr GB hr=>?_
  obtain⟨HS,hr⟩:=hr;cases r with
  |done c=>exact⟨Fb HS,hr.imp id λz=>⟨z.1,z.2.1,z.2.2.1,z.2.2.2.1,by have:=z.2.2.2.2;lia⟩⟩
  |yield c=>exact⟨Fb HS,hr.1,hr.2.1,hr.2.2.1,hr.2.2.2.1,by have:=hr.2.2.2.2;lia⟩
 ·rintro c eh ⟨eg,hc,h1,h2,h3,h4⟩
  lia
 rintro u eh ⟨eg,hu⟩;rcases hu with⟨x,e,hg⟩|⟨e,hI⟩
 ·rw[e];exact Au ⟨eg,x,rfl,hg⟩
 rw[e];dsimp only;exact Fo (uh λGB Wj=>Au ⟨Fb Wj,rfl,hI⟩)
theorem axB{st:SortSt}(hk:kindOf st=κ)(ha:0<a.size)(hb:0<b.size)(q:∀r aW,Eg st aW->MG lt a.toList b.toList r.toList->Q r aW):wpS AR A E s (NY a b) Q st:=by
 rw[aqW];refine wpS_bind LD;have ey:b[0]?=some b[0]:=AA;have BD:b.toList[0]?=some b[0]:=by rw[Array.getElem?_toList];exact ey
 refine wpS_bind dB;have m0:ML lt a.toList b.toList [] 0 0:=⟨AA,AA, .nil,λx hx=>(by cases hx),AA⟩
 have m1:ML lt a.toList b.toList (#[b[0]]:Array Keyed).toList 0 1:=by
  have:=m0.b M (k:=1) (by simp;lia) (λy hy x hx=>by
   rw[Jo BD]at hy;have:y=b[0]:=by simpa using hy
   rw[this];exact M.fst x q_ _ BD)
  rw[Jo BD]at this;exact this
 by_cases e:(1==b.size)=true
 ·rw[A7 e];refine wpS_pure Xn;rw[AH];exact m1.dn M (.inr (by have:=beq_iff_eq.mp e;simpa using this))
 rw[A6 e];have e:1≠b.size:=λz=>e Cw
 by_cases e2:(0+1==a.size)=true
 ·rw[A7 e2];refine wpS_pure Xn;rw[DY];exact m1.ls M (by have:=beq_iff_eq.mp e2;simpa using this)
 rw[A6 e2];have e2:0+1≠a.size:=λz=>e2 Cw
 refine wpS_bind Hs;refine wpS_bind (FP (wpS_forRange (I:=λx c eh=>Eg st eh/\c.1=none/\DZ lt a b c.2.1 c.2.2.1 c.2.2.2.1 x) (Q:=λc eh=>Eg st eh/\∃x,c.1=some x/\MG lt a.toList b.toList x.toList) ?_ ?_ ⟨.refl _,rfl,m1,by show 0+1<a.size;lia,by show 1<b.size;lia,by show 0<=0+1;lia⟩))
 ·rintro x c eh _ hx ⟨eg,hc,hI⟩;refine wpS_mono (arA C M Yn hI) λr GB hr=>?_
  obtain⟨HS,hr⟩:=hr;cases r with
  |done c=>exact⟨Fb HS,hr⟩
  |yield c=>exact⟨Fb HS,hr⟩
 ·rintro c eh ⟨eg,hc,h1,h2,h3,h4⟩
  lia
 ·rintro c eh ⟨eg,x,e,hg⟩;rw[e];exact Au x8
end
theorem yJ{α:Type}{l:List α}{x:α}:x∈l.take i↔∃t:Nat,t<i/\l[t]?=some x:=by
 have:=uN (l:=l) (i:=0) (k:=i) (x:=x);simpa using this
theorem aaQ{α:Type}{l:List α}{t:Nat}{x:α}:x∈(l.take i).drop t↔∃u:Nat,t<=u/\u<i/\l[u]?=some x:=by
 rw[mR];constructor
 ·rintro⟨u,hu⟩;rw[List.getElem?_take]at hu;split at hu
  ·exact⟨t+u,by lia,by assumption,hu⟩
  ·cases hu
 ·rintro⟨u,h1,h2,h3⟩;exact⟨u-t,by rw[List.getElem?_take,A7 A3,show t+(u-t)=u by lia];exact h3⟩
theorem AJ{α:Type}(l:List α){t:Nat}(h:t<=i):l.take i=l.take t++(l.take i).drop t:=by
 conv=>lhs;rw[<-Sn t (l.take i)]
 rw[List.take_take,Nat.min_eq_left h]
section
variable{X:List Keyed}{lt:Keyed->Keyed->Bool}{P Q:List Keyed}
structure MH(lt:Keyed->Keyed->Bool)(P Q O:List Keyed)(i j:Nat):Prop where
 hi:i<=P.length
 hj:j<=Q.length
 uO:Pw lt O
 BC:∀y∈O,∀x,x∈P.take i∨x∈Q.take j->lt x y=true
 KJ:((P.take i++Q.take j)++O).Perm (P++Q)
theorem MH.a{i j t}(M:MC X lt P Q)(m:MH lt P Q O i j)(ht:t<=i)(h:∀x∈(Mx i).drop t,∀y∈Q.take j,lt y x=true):MH lt P Q ((Mx i).drop t++O) t j:=by
 have sp:=AJ P ht;have sd:Pw lt (Mx i):=NC J';rw[sp]at sd;obtain⟨s1,s2,s3⟩:=Et sd;refine⟨by have:=m.hi;lia,m.hj,FU ⟨s2,m.uO,λx hx y hy=>LK (.inl q_)⟩,λy hy x hx=>?_,?_⟩
 ·rcases List.mem_append.mp hy with hy|hy
  ·rcases hx with hx|hx
   ·exact SH y
   ·exact h y hy x hx
  ·exact LK (hx.imp (λz=>by rw[sp];exact CW z) id)
 ·have:=m.KJ;rw[sp]at this;refine List.Perm.trans ?_ this;rw[<-List.append_assoc];refine List.Perm.append_right O ?_;rw[List.append_assoc,List.append_assoc];exact xT List.perm_append_comm
theorem MH.b{i j t}(M:MC X lt P Q)(m:MH lt P Q O i j)(ht:t<=j)(h:∀y∈(R5 j).drop t,∀x∈P.take i,lt x y=true):MH lt P Q ((R5 j).drop t++O) i t:=by
 have sp:=AJ Q ht;have sd:Pw lt (R5 j):=NW J';rw[sp]at sd;obtain⟨s1,s2,s3⟩:=Et sd;refine⟨m.hi,by have:=m.hj;lia,FU ⟨s2,m.uO,λx hx y hy=>LK (.inr q_)⟩,λy hy x hx=>?_,?_⟩
 ·rcases List.mem_append.mp hy with hy|hy
  ·rcases hx with hx|hx
   ·exact h y hy x hx
   ·exact SH y
  ·exact LK (hx.imp id (λz=>by rw[sp];exact CW z))
 ·have:=m.KJ;rw[sp]at this;rw[<-List.append_assoc,wF (Mx i)];exact this
theorem MH.dn(M:MC X lt P Q)(m:MH lt P Q O i j)(h:i=0∨j=0):MG lt P Q (P.take i++Q.take j++O):=by
 refine⟨m.KJ,?_⟩;have sa:Pw lt (Mx i):=NC J';have sb:Pw lt (R5 j):=NW J';refine List.pairwise_append.mpr ⟨FU ⟨sa,sb,λx hx y hy=>?_⟩,m.uO,λx hx y hy=>LK (K2 hx)⟩;rcases h with h|h
 ·rw[h,List.take_zero]at hx;cases hx
 ·rw[h,List.take_zero]at hy;cases hy
theorem MH.fb(M:MC X lt P Q)(m:MH lt P Q O i j)(h:j=1):MG lt P Q (Q.take j++P.take i++O):=by
 have sa:Pw lt (Mx i):=NC J';have sb:Pw lt (R5 j):=NW J';refine⟨(List.Perm.append_right O List.perm_append_comm).trans m.KJ,FU ⟨FU ⟨sb,sa,λy hy x hx=>?_⟩,m.uO,λx hx y hy=>LK (K2 hx).symm⟩⟩;obtain⟨t,h1,h2⟩:=yJ.mp hy;have:t=0:=by lia
 subst this;exact M.fst x (HP hx) y h2
end
section
variable{prog:Program}{w:World}{A:Around}{E:Value->Shared->Prop}{s:Shared}{X:List Keyed}{κ:SortKind}{lt:Keyed->Keyed->Bool}(C:HN prog w A s X κ lt){a b:Array Keyed}(M:MC X lt a.toList b.toList)
theorem AK (o) (i j:_):(Ia o i j).toList=a.toList.take i++b.toList.take j++o.toList.reverse:=by
 unfold Jm;simp[Array.toList_extract,List.extract_eq_take_drop]
theorem D0 (o) (i j:_):(Pz a b o i j).toList=b.toList.take j++a.toList.take i++o.toList.reverse:=by
 unfold Pz;simp[Array.toList_extract,List.extract_eq_take_drop]
theorem L_ (o) (c:Array Keyed) (t i:_):(o++(c.extract t i).reverse).toList.reverse=(c.toList.take i).drop t++o.toList.reverse:=by
 simp[Array.toList_extract,List.extract_eq_take_drop,List.drop_take]
theorem D1(o:Array Keyed) (x):(DM x).toList.reverse=[x]++o.toList.reverse:=AA
theorem Jp{l:List Keyed}(h0:0<i)(h:l[i-1]?=some x):(l.take i).drop (i-1)=[x]:=by
 have:l.take i=l.take (i-1)++[x]:=by
  conv=>lhs;rw[show i=i-1+1 by lia]
  rw[List.take_succ,h];rfl
 rw[this];have hl:=(AM h).1;rw[List.drop_left' (by simp;lia)]
theorem ui{l}(C:HN prog w A s X κ lt)(hs:Pw lt l)(pW:∀x∈l,x∈X){x:Keyed}(h:l[i-1]?=some x)(hz:z∈l.take i)(hy:y∈X)(Cr:lt x y=true):lt z y=true:=by
 obtain⟨t,h1,h2⟩:=yJ.mp hz;by_cases e:t=i-1
 ·subst e;rw[h]at h2;cases h2;exact Cr
 ·exact Ka (pW _ (B7 h2)) (pW _ (B7 h)) hy (hs.at A3 h2 h) Cr
def D5(lt:Keyed->Keyed->Bool)(a b:Array Keyed)(o:Array Keyed)(i j m:Nat):Prop:=MH lt a.toList b.toList o.toList.reverse i j/\0<i/\1<j/\m+i+j<=a.size+b.size
def aeJ(lt:Keyed->Keyed->Bool)(a b:Array Keyed)(m:Nat)(st:SortSt)(r:ForInStep T2)(aW:SortSt):Prop:=Eg st aW/\match r with
 | .done c=>(∃x,c.1=some x/\MG lt a.toList b.toList x.toList)∨(c.1=none/\D5 lt a b c.2.2.2.1 c.2.1 c.2.2.1 m)
 | .yield c=>c.1=none/\D5 lt a b c.2.2.2.1 c.2.1 c.2.2.1 m
include C M
theorem HU{st:SortSt}{o}{j:Nat}(ml:MH lt a.toList b.toList o.toList.reverse i j)(hi:0<i)(hj:1<j)(hm:m+i+j<=a.size+b.size+1)(h:∀x,a.toList[i-1]?=some x->∀y∈b.toList.take j,lt y x=true):wpS AR A E s (T_ a b o i j mg k l) (JY m st) st:=by
 unfold T_;have Wl:i<=a.size:=by have:=ml.hi;simpa using this
 have ex:a[i-1]?=some a[i-1]:=AA;have ie:a.toList[i-1]?=some a[i-1]:=by rw[Array.getElem?_toList];exact ex
 refine wpS_bind GU;have m2:MH lt a.toList b.toList (o.push a[i-1]).toList.reverse (i-1) j:=by
  have:=ml.a M (t:=i-1) (by lia) (λx hx y hy=>by
   rw[Kg hi]at hx;have:x=a[i-1]:=by simpa using hx
   rw[this];exact h _ ie y hy)
  rw[Kg hi]at this;rw[D1];exact this
 by_cases e:(i-1==0)=true
 ·rw[A7 e];refine wpS_pure ⟨.refl _, .inl ⟨_,rfl,?_⟩⟩;rw[AK];exact ame M
 ·rw[A6 e];have e:i-1≠0:=λz=>e Cw
  split
  ·exact Au ⟨.refl _, .inr ⟨rfl,m2,by show 0<i-1;lia,hj,by show m+(i-1)+j<=_;lia⟩⟩
  ·exact Au ⟨.refl _,rfl,m2,by show 0<i-1;lia,hj,by show m+(i-1)+j<=_;lia⟩
theorem alO{st:SortSt}{o}(hk:kindOf st=κ)(ml:MH lt a.toList b.toList o.toList.reverse i j)(hi:0<i)(hj:1<j)(hm:m+i+j<=a.size+b.size+1):wpS AR A E s (Wg a b o i j mg k bc) (JY m st) st:=by
 unfold Wg;have Wl:i<=a.size:=by have:=ml.hi;simpa using this
 have Wm:j<=b.size:=by have:=ml.hj;simpa using this
 have ex:a[i-1]?=some a[i-1]:=AA;have ie:a.toList[i-1]?=some a[i-1]:=by rw[Array.getElem?_toList];exact ex
 have hx:a[i-1]∈a.toList:=B7 ie;refine wpS_bind GU;generalize a[i-1]=x at ex ie hx;have gb:∀t,t<j->b[0+t]?=some (N0 t):=λt ht=>by simp[show t<b.size by lia]
 have tK:∀t,t<j->b.toList[t]?=some (N0 t):=λt ht=>by rw[Array.getElem?_toList];simpa using gb t ht
 refine wpS_bind (rN C (λt=>N0 t) hk Vj (λt ht=>⟨N4 t,Fp Rq⟩) (λt u h1 h2=>M.sb.at h1 VW (tK u h2)) (by lia) λt hl h1 h2=>?_);dsimp only;have BC:∀y∈(b.toList.take j).drop t,∀z∈a.toList.take i,lt z y=true:=λy hy z hz=>by
  obtain⟨u,h3,h4,h5⟩:=aaQ.mp hy;have hb:=h2 u h3 h4;rw[tK u h4]at h5;have h5:=Aw h5;simp only[mz,if_true]at hb;rw[h5]at hb;have Wn:=HP (Ob hy);have hb:=aqz (Fp Wn) (λz=>XH hx Wn);exact ui C M.sa M.ia ie hz (Fp Wn) hb
 have low:∀y∈b.toList.take t,lt y x=true:=λy hy=>by
  obtain⟨u,h3,h4⟩:=yJ.mp hy;have hb:=h1 u h3;rw[Ho u]at h4;have h4:=Aw h4;simp only[mz,if_true]at hb;rw[h4]at hb;exact hb
 have m2:MH lt a.toList b.toList (o++(Np j).reverse).toList.reverse i t:=by
  rw[L_];exact ml.b M hl BC
 by_cases N1:j-t>0
 ·rw[A7 N1];by_cases e:(t==1)=true
  ·rw[A7 e];refine wpS_pure ⟨.refl _, .inl ⟨_,rfl,?_⟩⟩;rw[D0];exact zh M
  ·rw[A6 e];have e:t≠1:=λz=>e Cw
   by_cases e2:(t==0)=true
   ·rw[A7 e2];refine wpS_pure ⟨.refl _, .inl ⟨_,rfl,?_⟩⟩;rw[AK];exact Yo (.inr Wx)
   ·rw[A6 e2];have e2:t≠0:=λz=>e2 Cw
    exact HU C M m2 hi A3 (by lia) λy hy=>by rw[ie]at hy;cases hy;exact low
 ·rw[A6 N1];have:t=j:=by lia
  subst this;exact HU C M ml hi hj hm λy hy=>by rw[ie]at hy;cases hy;exact low
theorem HV{st:SortSt}{o}{i:Nat}(hk:kindOf st=κ)(ml:MH lt a.toList b.toList o.toList.reverse i j)(hi:0<i)(hj:1<j)(hm:m+i+j<=a.size+b.size+2)(h:∀y,b.toList[j-1]?=some y->∀x∈a.toList.take i,lt x y=true):wpS AR A E s (Ua a b o i j mg k bc) (JY m st) st:=by
 unfold Ua;have Wm:j<=b.size:=by have:=ml.hj;simpa using this
 have ex:b[j-1]?=some b[j-1]:=AA;have ie:b.toList[j-1]?=some b[j-1]:=by rw[Array.getElem?_toList];exact ex
 refine wpS_bind GU;have m2:MH lt a.toList b.toList (o.push b[j-1]).toList.reverse i (j-1):=by
  have:=ml.b M (t:=j-1) (by lia) (λx hx y hy=>by
   rw[Xa ie]at hx;have:x=b[j-1]:=by simpa using hx
   rw[this];exact h _ ie y hy)
  rw[Xa ie]at this;rw[D1];exact this
 by_cases e:(j-1==1)=true
 ·rw[A7 e];refine wpS_pure ⟨.refl _, .inl ⟨_,rfl,?_⟩⟩;rw[D0];exact zh M
 ·rw[A6 e];have e:j-1≠1:=λz=>e Cw
  exact alO C M hk m2 hi A3 (by lia)
theorem abT{st:SortSt}(hk:kindOf st=κ)(h:D5 lt a b o i j m):wpS AR A E s (Jn a b o i j mg ac bc) (JY (m+2) st) st:=by
 obtain⟨ml,hi,hj,hm⟩:=h;have Wl:i<=a.size:=by have:=ml.hi;simpa using this
 have Wm:j<=b.size:=by have:=ml.hj;simpa using this
 unfold Jn;refine wpS_bind (uh λCq eg=>?_);have L9:kindOf Cq=κ:=YV hk;have fin:∀{m:Nat}{p:StateT SortSt Sem (Di T2)},wpS AR A E s p (JY m Cq) Cq->wpS AR A E s p (JY m st) Cq:=λh=>wpS_mono h λr aW z=>⟨Fb z.1,z.2⟩
 refine fin ?_;have ex:b[j-1]?=some b[j-1]:=AA;have ie:b.toList[j-1]?=some b[j-1]:=by rw[Array.getElem?_toList];exact ex
 have hx:b[j-1]∈b.toList:=B7 ie;refine wpS_bind GU;generalize b[j-1]=y at ex ie hx;have gb:∀t,t<i->a[0+t]?=some (Kd t):=λt ht=>by simp[show t<a.size by lia]
 have tK:∀t,t<i->a.toList[t]?=some (Kd t):=λt ht=>by rw[Array.getElem?_toList];simpa using gb t ht
 refine wpS_bind (rN C (λt=>Kd t) L9 YY (λt ht=>⟨N4 t,IJ Rq⟩) (λt u h1 h2=>M.sa.at h1 VW (tK u h2)) (by lia) λt hl h1 h2=>?_);dsimp only;have BC:∀x∈(a.toList.take i).drop t,∀z∈b.toList.take j,lt z x=true:=λx tw z hz=>by
  obtain⟨u,h3,h4,h5⟩:=aaQ.mp tw;have hb:=h2 u h3 h4;rw[tK u h4]at h5;have h5:=Aw h5;simp only[mz,Bool.false_eq_true,if_false,Bool.not_eq_false']at hb;rw[h5]at hb;exact ui C M.sb M.ib ie hz (IJ (HP (Ob tw))) hb
 have low:∀x∈a.toList.take t,lt x y=true:=λx tw=>by
  obtain⟨u,h3,h4⟩:=yJ.mp tw;have hb:=h1 u h3;rw[Ho u]at h4;have h4:=Aw h4;have Ha:=HP tw;simp only[mz,Bool.false_eq_true,if_false,Bool.not_eq_true']at hb;rw[h4]at hb;exact C.no YY (IJ Ha) (λz=>XH Ha hx) hb
 have m2:MH lt a.toList b.toList (o++(YB i).reverse).toList.reverse t j:=by
  rw[L_];exact ml.a M hl BC
 by_cases xP:i-t>0
 ·rw[A7 xP];by_cases e:(t==0)=true
  ·rw[A7 e];refine wpS_pure ⟨.refl _, .inl ⟨_,rfl,?_⟩⟩;rw[AK];exact ame M
  ·rw[A6 e];have e:t≠0:=λz=>e Cw
   exact HV C M L9 m2 A3 hj A3 λz hz=>by rw[ie]at hz;cases hz;exact low
 ·rw[A6 xP];have:t=i:=by lia
  subst this;exact HV C M L9 ml hi hj A3 λz hz=>by rw[ie]at hz;cases hz;exact low
theorem asv{st:SortSt}{c}(hk:kindOf st=κ)(h:D5 lt a b c.2.2.2.1 c.2.1 c.2.2.1 m):wpS AR A E s (Wh a b c) (JY (m+2) st) st:=by
 unfold Wh;split
 ·exact abT C M hk h
 ·exact abT C M hk h
theorem awH{st:SortSt}{c}(hk:kindOf st=κ)(h:D5 lt a b c.2.2.2.1 c.2.1 c.2.2.1 m):wpS AR A E s (Wf a b mg c) (λr aW=>aW=st/\match r with
  | .done c=>(∃x,c.1=some x/\MG lt a.toList b.toList x.toList)∨(c.1=none/\D5 lt a b c.2.2.2.1 c.2.1 c.2.2.1 (m+1))
  | .yield c=>c.1=none/\D5 lt a b c.2.2.2.1 c.2.1 c.2.2.1 (m+1)) st:=by
 obtain⟨r,i,j,o,ac,bc⟩:=c;obtain⟨ml,hi,hj,hm⟩:=h;dsimp only at ml hi hj hm;have Wl:i<=a.size:=by have:=ml.hi;simpa using this
 have Wm:j<=b.size:=by have:=ml.hj;simpa using this
 unfold Wf;dsimp only;have ex:a[i-1]?=some a[i-1]:=AA;have ie:a.toList[i-1]?=some a[i-1]:=by rw[Array.getElem?_toList];exact ex
 have ey:b[j-1]?=some b[j-1]:=AA;have BD:b.toList[j-1]?=some b[j-1]:=by rw[Array.getElem?_toList];exact ey
 have hx:a[i-1]∈a.toList:=B7 ie;have hy:b[j-1]∈b.toList:=B7 BD;refine wpS_bind (zE ey);generalize a[i-1]=x at ex ie hx;generalize b[j-1]=y at ey BD hy;refine wpS_bind att;dsimp only;cases e:lt y x with
 |true=>
  rw[if_pos rfl];refine wpS_bind GU;have m2:MH lt a.toList b.toList (DM x).toList.reverse (i-1) j:=by
   have:=ml.a M (t:=i-1) (by lia) (λx' tw z hz=>by
    rw[Kg hi]at tw;have:x'=x:=by simpa using tw
    rw[this];exact ui C M.sb M.ib BD hz Vj e)
   rw[Kg hi]at this;rw[D1];exact this
  by_cases e2:(i-1==0)=true
  ·rw[A7 e2];refine wpS_pure ⟨rfl, .inl ⟨_,rfl,?_⟩⟩;rw[AK];exact Yo (.inl Wx)
  ·rw[A6 e2];have e2:i-1≠0:=λz=>e2 Cw
   split
   ·exact Au ⟨rfl, .inr ⟨rfl,m2,by show 0<i-1;lia,hj,by show m+1+(i-1)+j<=_;lia⟩⟩
   ·exact Au ⟨rfl,rfl,m2,by show 0<i-1;lia,hj,by show m+1+(i-1)+j<=_;lia⟩
 |false=>
  rw[if_neg A9];refine wpS_bind dB;have e:=ahY e;have m2:MH lt a.toList b.toList (DM y).toList.reverse i (j-1):=by
   have:=ml.b M (t:=j-1) (by lia) (λy' RM z hz=>by
    rw[Xa BD]at RM;have:y'=y:=by simpa using RM
    rw[this];exact ui C M.sa M.ia ie hz vR e)
   rw[Xa BD]at this;rw[D1];exact this
  by_cases e2:(j-1==1)=true
  ·rw[A7 e2];refine wpS_pure ⟨rfl, .inl ⟨_,rfl,?_⟩⟩;rw[D0];exact m2.fb M Wx
  ·rw[A6 e2];have e2:j-1≠1:=λz=>e2 Cw
   split
   ·exact Au ⟨rfl, .inr ⟨rfl,m2,hi,by show 1<j-1;lia,by show m+1+i+(j-1)<=_;lia⟩⟩
   ·exact Au ⟨rfl,rfl,m2,hi,by show 1<j-1;lia,by show m+1+i+(j-1)<=_;lia⟩
theorem aqU{st:SortSt}{c}(hk:kindOf st=κ)(h:D5 lt a b c.2.2.2.1 c.2.1 c.2.2.1 m):wpS AR A E s (Wi a b c) (λr aW=>Eg st aW/\match r with
  | .done c=>∃x,c.1=some x/\MG lt a.toList b.toList x.toList
  | .yield c=>c.1=none/\D5 lt a b c.2.2.2.1 c.2.1 c.2.2.1 (m+1)) st:=by
 unfold Wi;refine wpS_bind (FP (IP (I:=λx c aW=>aW=st/\c.1=none/\D5 lt a b c.2.2.2.1 c.2.1 c.2.2.1 (m+x)) (Q:=λc aW=>aW=st/\((∃x,c.1=some x/\MG lt a.toList b.toList x.toList)∨(c.1=none/\D5 lt a b c.2.2.2.1 c.2.1 c.2.2.1 (m+1)))) ⟨rfl,rfl,h⟩))
 ·rintro x c aW _ hx ⟨rfl,hc,hI⟩;refine wpS_mono (awH C M hk hI) λr aW hr=>?_
  obtain⟨rfl,hr⟩:=hr;cases r with
  |done c=>exact⟨rfl,hr.imp id λz=>⟨z.1,z.2.1,z.2.2.1,z.2.2.2.1,by have:=z.2.2.2.2;lia⟩⟩
  |yield c=>exact⟨rfl,hr.1,hr.2⟩
 ·rintro c aW ⟨rfl,hc,h1,h2,h3,h4⟩
  lia
 rintro t aW ⟨rfl,ht⟩;rcases ht with⟨x,e,hg⟩|⟨e,hI⟩
 ·rw[e];exact Au ⟨.refl _,x,rfl,hg⟩
 rw[e];dsimp only;refine wpS_bind LD;refine wpS_bind (FP (IP (I:=λx c eh=>Eg aW eh/\c.1=none/\D5 lt a b c.2.2.2.1 c.2.1 c.2.2.1 (m+1+x)) (Q:=λc eh=>Eg aW eh/\((∃x,c.1=some x/\MG lt a.toList b.toList x.toList)∨(c.1=none/\D5 lt a b c.2.2.2.1 c.2.1 c.2.2.1 (m+1)))) ⟨.refl _,rfl,hI⟩))
 ·rintro x c eh _ hx ⟨eg,hc,hI⟩;refine wpS_mono (asv C M Yn hI) λr GB hr=>?_
  obtain⟨HS,hr⟩:=hr;cases r with
  |done c=>exact⟨Fb HS,hr.imp id λz=>⟨z.1,z.2.1,z.2.2.1,z.2.2.2.1,by have:=z.2.2.2.2;lia⟩⟩
  |yield c=>exact⟨Fb HS,hr.1,hr.2.1,hr.2.2.1,hr.2.2.2.1,by have:=hr.2.2.2.2;lia⟩
 ·rintro c eh ⟨eg,hc,h1,h2,h3,h4⟩
  lia
 rintro u eh ⟨eg,hu⟩;rcases hu with⟨x,e,hg⟩|⟨e,hI⟩
 ·rw[e];exact Au ⟨eg,x,rfl,hg⟩
 rw[e];dsimp only;exact Fo (uh λGB Wj=>Au ⟨Fb Wj,rfl,hI⟩)
theorem asM{st:SortSt}(hk:kindOf st=κ)(ha:0<a.size)(hb:0<b.size)(q:∀r aW,Eg st aW->MG lt a.toList b.toList r.toList->Q r aW):wpS AR A E s (NZ a b) Q st:=by
 rw[avu];refine wpS_bind LD;have ex:a[a.size-1]?=some a[a.size-1]:=AA;have ie:a.toList[a.size-1]?=some a[a.size-1]:=by rw[Array.getElem?_toList];exact ex
 refine wpS_bind GU;have m0:MH lt a.toList b.toList [] a.size b.size:=⟨AA,AA, .nil,λx hx=>(by cases hx),by rw[List.take_of_length_le A9,List.take_of_length_le A9];simp⟩
 have m1:MH lt a.toList b.toList (#[a[a.size-1]]:Array Keyed).toList.reverse (a.size-1) b.size:=by
  have:=m0.a M (t:=a.size-1) (by lia) (λx hx y hy=>by
   rw[Kg ha]at hx;have:x=a[a.size-1]:=by simpa using hx
   rw[this];exact M.lst y rC _ (by simpa using ie))
  rw[Kg ha]at this;simpa using this
 by_cases e:(a.size-1==0)=true
 ·rw[A7 e];refine wpS_pure Xn;rw[AK];exact m1.dn M (.inl (Xr e))
 rw[A6 e];have e:a.size-1≠0:=λz=>e Cw
 by_cases e2:(b.size==1)=true
 ·rw[A7 e2];refine wpS_pure Xn;rw[D0];exact m1.fb M Wx
 rw[A6 e2];have e2:b.size≠1:=λz=>e2 Cw
 refine wpS_bind Hs;refine wpS_bind (FP (wpS_forRange (I:=λx c eh=>Eg st eh/\c.1=none/\D5 lt a b c.2.2.2.1 c.2.1 c.2.2.1 x) (Q:=λc eh=>Eg st eh/\∃x,c.1=some x/\MG lt a.toList b.toList x.toList) ?_ ?_ ⟨.refl _,rfl,m1,by show 0<a.size-1;lia,by show 1<b.size;lia,by show 0+(a.size-1)+b.size<=_;lia⟩))
 ·rintro x c eh _ hx ⟨eg,hc,hI⟩;refine wpS_mono (aqU C M Yn hI) λr GB hr=>?_
  obtain⟨HS,hr⟩:=hr;cases r with
  |done c=>exact⟨Fb HS,hr⟩
  |yield c=>exact⟨Fb HS,hr⟩
 ·rintro c eh ⟨eg,hc,h1,h2,h3,h4⟩
  lia
 ·rintro c eh ⟨eg,x,e,hg⟩;rw[e];exact Au x8
end
def Ub(lo i n:Nat):StateT SortSt Sem AscSt:=forIn [i:n] ((none,i):AscSt) λ_ c=>do
 let z<-Ki (lo+c.2) (lo+c.2-1)
 match z with
 |some v=>if v=true then pure (.done (none,c.2))else pure (.yield (none,c.2+1))
 | _=>BQ (.done (some none,c.2))
def Uc(lo i n:Nat):StateT SortSt Sem (Gk Nat):=do
 reverseSlice' lo (lo+i)
 let t<-Ub lo i n
 match t.1 with
 |some r=>BQ r
 |none=>BQ (some t.2)
def Wo(lo i n:Nat):StateT SortSt Sem DescSt:=forIn [i:n] ((none,i,0):DescSt) λ_ c=>do
 let z<-Ki (lo+c.2.1) (lo+c.2.1-1)
 match z with
 |some v=>
  if v=true then
   if c.2.2>0 then do
    reverseSlice' (lo+c.2.1-(c.2.2+1)) (lo+c.2.1)
    pure (.yield (none,c.2.1+1,0))
   else pure (.yield (none,c.2.1+1,0))
  else do
   let z<-Ki (lo+c.2.1-1) (lo+c.2.1)
   match z with
   |some v=>if v=true then pure (.done (none,c.2.1,c.2.2))else pure (.yield (none,c.2.1+1,c.2.2+1))
   | _=>BQ (.done (some none,c.2.1,c.2.2))
 | _=>BQ (.done (some none,c.2.1,c.2.2))
def Wq(lo i n:Nat):StateT SortSt Sem (Gk Nat):=do
 liftM (rule "list.sort.descending-run")
 let t<-Wo lo (i+1) n
 match t.1 with
 |some r=>BQ r
 |none=>
  if t.2.2>0 then do
   reverseSlice' (lo+t.2.1-(t.2.2+1)) (lo+t.2.1)
   Uc lo t.2.1 n
  else Uc lo t.2.1 n
theorem arl(lo n:_):countRun' lo n=(do
 let t<-Ub lo 1 n
 match t.1 with
 |some r=>BQ r
 |none=>
  if (t.2==n)=true then pure (some t.2)
  else if t.2>1 then do
   let z<-Ki lo (lo+t.2-1)
   match z with
   |some v=>if v=true then pure (some t.2)else do
     reverseSlice' lo (lo+t.2)
     Wq lo t.2 n
   | _=>pure none
  else Wq lo t.2 n):=by kernel_rfl
def X8(lo k:Nat):StateT SortSt Sem (Option Bool×Nat×Nat):=forIn [0:k] ((none,0,k):Option Bool×Nat×Nat) λ_ c=>
 if c.2.1>=c.2.2 then pure (.done (none,c.2.1,c.2.2))
 else do
  let z<-Ki (lo+k) (lo+(c.2.1+c.2.2)/2)
  match z with
  |some v=>if v=true then pure (.yield (none,c.2.1,(c.2.1+c.2.2)/2))else pure (.yield (none,(c.2.1+c.2.2)/2+1,c.2.2))
  | _=>BQ (.done (some false,c.2.1,c.2.2))
theorem akw(lo n ok:_):binarySort' lo n ok=(do
 let t<-forIn [max ok 1:n] ((none,()):Option Bool×Unit) λk _=>do
  let t<-X8 lo k
  match t.1 with
  |some r=>BQ (.done (some r,()))
  |none=>do
   moveDown' (lo+k) (lo+t.2.1)
   pure (.yield (none,()))
 match t.1 with
 |some r=>BQ r
 |none=>BQ true):=by kernel_rfl
def aoY(j:Nat)(m:Array Keyed)(st:SortSt):SortSt:=pe (m.toList.zipIdx.foldl Zz (AE st))
theorem atA (i):mergeAt' i=(do
 let g<-get
 let (some (p,m,v),some (q,n,_)):=((Al g)[i]?,(Al g)[i+1]?)|unsupported "internal:list.sort.pending"
 set (m7 g (((Al g).setIfInBounds i (p,m+n,v)).eraseIdxIfInBounds (i+1)))
 let some k<-AG false (<-elem' (AE g) q) (AE g) p m 0|return false
 if m-k==0 then return true
 let some n<-AG true (<-elem' (AE g) (p+k+(m-k)-1)) (AE g) q n (n-1)|return false
 if n==0 then return true
 let r<-if m-k<=n then NY ((AE g).extract (p+k) q) ((AE g).extract q (q+n))else NZ ((AE g).extract (p+k) q) ((AE g).extract q (q+n))
 modify λst=>Nn st
 return (XY (<-get)).isNone):=by kernel_rfl
def Wr(n w:Nat):StateT SortSt Sem (Option Unit×Unit):=forIn [0:n] ((none,()):Option Unit×Unit) λ_ _=>do
 let g<-get
 match (if (Al g).size>1 then(Al g)[(Al g).size-2]? else none)with
 |some (_,_,v)=>
  if v<=w then pure (.done (none,()))
  else do
   let z<-VT ((Al g).size-2)
   if (!z)=true then pure (.done (some (),()))else pure (.yield (none,()))
 | _=>BQ (.done (none,()))
def X9(w:Nat)(st:SortSt):SortSt:=m7 st ((Al st).modify ((Al st).size-1) λ(p,l,_)=>(p,l,w))
def Ud(lo n:Nat)(st:SortSt):SortSt:=m7 st ((Al st).push (lo,n,0))
def Ue(N lo n:Nat):StateT SortSt Sem (Di (Option Unit×Nat)):=do
 let g<-get
 match (Al g).back? with
 |some (p,l,_)=>do
  let t<-Wr N (Vm (2*p+l) (2*p+l+l+n))
  match t.1 with
  |some r=>BQ (.done (some r,lo))
  |none=>do
   modify (X9 (Vm (2*p+l) (2*p+l+l+n)))
   modify (Ud lo n)
   pure (.yield (none,lo+n))
 | _=>do
  modify (Ud lo n)
  pure (.yield (none,lo+n))
def Ws(N:Nat):StateT SortSt Sem (Option Unit×Unit):=forIn [0:N] ((none,()):Option Unit×Unit) λ_ _=>do
 let g<-get
 if (Al g).size<=1 then pure (.done (none,()))
 else do
  let z<-VT (if (if (Al g).size-2>0 then((Al g)[(Al g).size-2-1]?).map (·.2.1)else none).any (·<((Al g)[(Al g).size-2+1]?.elim 0 (·.2.1)))then(Al g).size-2-1 else(Al g).size-2)
  if (!z)=true then pure (.done (some (),()))else pure (.yield (none,()))
theorem awP:sortRuns'=(do
 let g<-get
 let t<-forIn [0:(AE g).size] ((none,0):Option Unit×Nat) λ_ c=>
  if c.2>=(AE g).size then pure (.done (none,c.2))
  else do
   let z<-countRun' c.2 ((AE g).size-c.2)
   match z with
   |some n=>
    if n<minRun' (AE g).size (AE g).size 0 then do
     liftM (rule "list.sort.binary-insertion")
     let z<-binarySort' c.2 (min ((AE g).size-c.2) (minRun' (AE g).size (AE g).size 0)) n
     if (!z)=true then pure (.done (some (),c.2))else Ue (AE g).size c.2 (min ((AE g).size-c.2) (minRun' (AE g).size (AE g).size 0))
    else Ue (AE g).size c.2 n
   | _=>BQ (.done (some (),c.2))
 match t.1 with
 |some r=>BQ r
 |none=>do
  let u<-Ws (AE g).size
  match u.1 with
  |some r=>BQ r
  |none=>BQ ()):=by kernel_rfl
abbrev gg(xs:Array Keyed)(k:Nat):Keyed:=xs.getD k (.none, .none)
theorem qt (xs) (k):gg xs k=(xs[k]?).getD (.none, .none):=by unfold gg;rw[Array.getD_eq_getD_getElem?]
theorem mf{xs}(h:k<xs.size):xs[k]?=some (JD k):=by simp[h]
def Sw(lt:Keyed->Keyed->Bool)(xs:Array Keyed)(a b:Nat):Prop:=∀i j,a<=i->i<j->j<b->lt (JD i) (JD j)=true
def Dw(lt:Keyed->Keyed->Bool)(xs:Array Keyed)(a b:Nat):Prop:=∀i j,a<=i->i<j->j<b->lt (JD j) (JD i)=true
theorem Sw.congr{lt}{a b}(h:Sw lt xs a b)(e:∀t,a<=t->t<b->gg ys t=gg xs t):Sw lt ys a b:=λi j h1 h2 h3=>by rw[e i h1 A3,e j A3 h3];exact h i j h1 h2 h3
structure SB(X:List Keyed)(κ:SortKind)(st:SortSt):Prop where
 pm:(AE st).toList.Perm X
 kd:kindOf st=κ
 fl:failedOf st=none
theorem aiN{σ:Type}{x:σ}{Q:PUnit->σ->Prop}{st:σ}(h:Q ⟨⟩ x):wpS M A E s (set x:StateT σ Sem PUnit) Q st:=by
 unfold wpS;rw[StateT.run_set];exact B2 ⟨rfl,h⟩
section
variable{prog:Program}{w:World}{A:Around}{E:Value->Shared->Prop}{s:Shared}{X:List Keyed}{κ:SortKind}{lt:Keyed->Keyed->Bool}
theorem SB.size{st:SortSt}(b:SB X κ st):(AE st).size=X.length:=by have:=b.pm.length_eq;simpa using this
theorem SB.mem{st:SortSt}(b:SB X κ st)(h:k<X.length):gg Bw k∈X:=by
 have:=RO (k:=k) (by rw[b.size];exact h);rw[<-Array.getElem?_toList]at this;exact arv (B7 this)
theorem SB.inj{st:SortSt}(C:HN prog w A s X κ lt)(b:SB X κ st)(hi:i<X.length)(hj:j<X.length)(h:i≠j):gg Bw i≠gg Bw j:=λe=>by
 have h1:=RO (k:=i) (by rw[b.size];exact hi);have h2:=RO (k:=j) (by rw[b.size];exact hj);rw[<-Array.getElem?_toList]at h1 h2;have nd:(AE st).toList.Nodup:=b.pm.nodup_iff.mpr C.nd;exact h ((Jf (AM h1).1).mp (by rw[h1,h2,e]))
theorem SB.set{st:SortSt}{xs}(b:SB X κ st)(h:xs.Perm Bw):SB X κ (pe xs):=⟨(Array.perm_iff_toList_perm.mp h).trans b.pm,b.kd,b.fl⟩
variable(C:HN prog w A s X κ lt)
include C
theorem AL{st:SortSt}(b:SB X κ st)(hi:i<X.length)(hj:j<X.length)(h:Q (some (lt (Bo i) (Bo j))) st):wpS AR A E s (Ki i j) Q st:=by
 rw[ltAt'_eq];refine wpS_bind Hs;show wpS _ _ _ _ (do let x<-elem' Bw i;let y<-elem' Bw j;lt' x y) Q st;exact Fo (fG (mf (by rw[b.size];exact hi)) (Fo (fG (mf (by rw[b.size];exact hj)) (C.ask b.kd (Gm hi) (Gm hj) h))))
theorem SB.no{st:SortSt}(b:SB X κ st)(hi:i<X.length)(hj:j<X.length)(h:i≠j)(e:lt (Bo i) (Bo j)=false):lt (Bo j) (Bo i)=true:=C.no (Gm hi) (Gm hj) (b.inj C hi hj h) e
theorem Sw.next{st:SortSt}(b:SB X κ st){lo n:Nat}(h1:1<=n)(hn:lo+n<X.length)(h:Sw lt (AE st) lo (lo+n))(e:lt (Bo (lo+n)) (Bo (lo+n-1))=false):Sw lt (AE st) lo (lo+(n+1)):=λi j hi vV hj=>by
 have hl:=ank C (i:=lo+n) (j:=lo+n-1) hn e;by_cases ej:j=lo+n
 ·subst ej;by_cases ei:i=lo+n-1
  ·subst ei;exact hl
  ·exact Ka axr (Gm A3) (Gm hn) (h i (lo+n-1) hi A3 (by lia)) hl
 ·exact h i j hi vV A3
theorem abc{st:SortSt}{lo i n:Nat}(b:SB X κ st)(hn:lo+n<=X.length)(h1:1<=i)(pW:i<=n)(hs:Sw lt (AE st) lo (lo+i))(q:∀m,i<=m->m<=n->Sw lt (AE st) lo (lo+m)->(m=n∨lt (Bo (lo+m)) (Bo (lo+m-1))=true)->Q (none,m) st):wpS AR A E s (Ub lo i n) Q st:=by
 unfold Ub;refine wpS_forRange (I:=λx c aW=>aW=st/\c=(none,x)/\Sw lt (AE st) lo (lo+x)) ?_ ?_ ⟨rfl,rfl,hs⟩
 ·rintro x c aW mB hx ⟨rfl,rfl,oG⟩;refine wpS_bind (AL C b (by show lo+x<_;lia) (by show lo+x-1<_;lia) ?_);dsimp only;cases e:lt (FN (lo+x)) (FN (lo+x-1))with
  |true=>
   rw[if_pos rfl];exact Au (q x mB A3 oG (.inr e))
  |false=>
   rw[if_neg A9];exact Au ⟨rfl,rfl,Sw.next C b (by lia) (by lia) oG e⟩
 ·rintro c aW ⟨rfl,rfl,oG⟩;rw[show max i n=n by lia]at oG⊢;exact q n pW Bj oG (.inl rfl)
omit C in
theorem Cs{xs}(hj:j<=xs.size) (k):gg (mirror xs i j ((j-i)/2)) k=if i<=k/\k<j then gg xs (i+j-1-k)else gg xs k:=by
 rw[qt,getElem?_mirror_all hj];split<;>rw[qt]
theorem anA{st:SortSt}{lo i n:Nat}(b:SB X κ st)(hn:lo+n<=X.length)(h1:1<=i)(pW:i<=n)(hs:Dw lt (AE st) lo (lo+i))(q:∀m aW,SB X κ aW->pendingOf aW=pendingOf st->(∀t,t<lo->gg Nj t=gg Bw t)->1<=m->m<=n->Sw lt (AE aW) lo (lo+m)->Q (some m) aW):wpS AR A E s (Uc lo i n) Q st:=by
 unfold Uc;refine wpS_bind ?_;rw[reverseSlice'_eq];refine wpS_modify ?_;have hsz:lo+i<=(AE st).size:=by rw[b.size];lia
 have b':SB X κ (pe (mirror Bw lo (lo+i) ((lo+i-lo)/2))):=b.set (mirror_perm _ _ _ _);refine wpS_bind (abc C b' hn h1 pW (λx y hx Cr hy=>?_) λm a1 a2 a3 _=>Au (q m _ b' rfl (λt ht=>?_) (by lia) a2 a3))
 ·show lt (gg (mirror Bw lo (lo+i) ((lo+i-lo)/2)) x) (gg (mirror Bw lo (lo+i) ((lo+i-lo)/2)) y)=true;rw[Cs hsz,Cs hsz,A7 A3,A7 A3];exact hs _ _ (by lia) (by lia) (by lia)
 ·show gg (mirror Bw lo (lo+i) ((lo+i-lo)/2)) t=_;rw[Cs hsz,A6 A3]
theorem awW{st:SortSt}{lo i n:Nat}(b:SB X κ st)(hn:lo+n<=X.length)(h1:1<=i)(pW:i<=n)(hs:Dw lt (AE st) lo (lo+i))(q:∀m,i<=m->m<=n->Dw lt (AE st) lo (lo+m)->Q (none,m,0) st):wpS AR A E s (Wo lo i n) Q st:=by
 unfold Wo;refine wpS_forRange (I:=λx c aW=>aW=st/\c=(none,x,0)/\Dw lt (AE st) lo (lo+x)) ?_ ?_ ⟨rfl,rfl,hs⟩
 ·rintro x c aW mB hx ⟨rfl,rfl,oG⟩;refine wpS_bind (AL C b (by show lo+x<_;lia) (by show lo+x-1<_;lia) ?_);dsimp only;cases e:lt (FN (lo+x)) (FN (lo+x-1))with
  |true=>
   rw[if_pos rfl,A6 A3];refine wpS_pure ⟨rfl,rfl,λy z hy hyz hz=>?_⟩;by_cases ez:z=lo+x
   ·subst ez;by_cases ey:y=lo+x-1
    ·subst ey;exact e
    ·exact Ka axr (Gm A3) (Gm A3) e (cI y (lo+x-1) hy)
   ·exact oG y z hy hyz A3
  |false=>
   rw[if_neg A9];have e':=ank C (i:=lo+x) (j:=lo+x-1) (by lia) e;refine wpS_bind (ll b);rw[e'];dsimp only;rw[if_pos rfl];exact Au (q x mB A3 oG)
 ·rintro c aW ⟨rfl,rfl,oG⟩;rw[show max i n=n by lia]at oG⊢;exact q n pW Bj oG
theorem alr{st:SortSt}{lo n:Nat}(b:SB X κ st)(hn:lo+n<=X.length)(h1:1<=n)(q:∀m aW,SB X κ aW->pendingOf aW=pendingOf st->(∀t,t<lo->gg Nj t=gg Bw t)->1<=m->m<=n->Sw lt (AE aW) lo (lo+m)->Q (some m) aW):wpS AR A E s (countRun' lo n) Q st:=by
 rw[arl];refine wpS_bind (abc C b hn Bj h1 (λi j a b c=>by lia) λm a1 a2 a3 a4=>?_);dsimp only;by_cases e:(m==n)=true
 ·rw[A7 e];exact Au (xw m b)
 ·rw[A6 e];have e:m≠n:=λz=>e Cw
  by_cases e2:m>1
  ·rw[A7 e2];refine wpS_bind (ll b);rw[a3 lo (lo+m-1) (Nat.le_refl _) (by lia) (by lia)];dsimp only;rw[if_pos rfl];exact Au (xw m b)
  ·rw[A6 e2];have:m=1:=by lia
   subst this;unfold Wq;refine wpS_bind LD;refine wpS_bind (awW C b hn A3 (by lia) (λi j hi vV hj=>?_) λm c1 c2 c3=>?_)
   ·have hi:i=lo:=by lia
    have hj:j=lo+1:=by lia
    subst hi hj;exact a4.resolve_left e
   ·dsimp only;rw[A6 A3];exact anA C b hn A3 c2 c3 q
omit C in
theorem awh{xs}{d:Nat}(hs:src<xs.size)(hd:d<=src) (k):gg (bubble xs src d) k=if k=src-d then gg xs src else if src-d<k/\k<=src then gg xs (k-1)else gg xs k:=by
 rw[qt,getElem?_bubble hs d hd];by_cases h1:k=src-d
 ·rw[A7 h1,A7 h1,qt]
 ·rw[A6 h1,A6 h1];by_cases h2:src-d<k/\k<=src
  ·rw[A7 h2,A7 h2,qt]
  ·rw[A6 h2,A6 h2,qt]
theorem afE{st:SortSt}{lo n ok:Nat}(b:SB X κ st)(hn:lo+n<=X.length)(h1:1<=ok)(cc:ok<=n)(hs:Sw lt (AE st) lo (lo+ok))(q:∀aW,SB X κ aW->pendingOf aW=pendingOf st->(∀t,t<lo->gg Nj t=gg Bw t)->Sw lt (AE aW) lo (lo+n)->Q true aW):wpS AR A E s (binarySort' lo n ok) Q st:=by
 rw[akw];refine wpS_bind (FP (IP (I:=λk c aW=>c=(none,())/\SB X κ aW/\pendingOf aW=pendingOf st/\(∀t,t<lo->gg Nj t=gg Bw t)/\Sw lt (AE aW) lo (lo+k)) (Q:=λc aW=>c=(none,())/\SB X κ aW/\pendingOf aW=pendingOf st/\(∀t,t<lo->gg Nj t=gg Bw t)/\Sw lt (AE aW) lo (lo+n)) ⟨rfl,b,rfl,λ_ _=>rfl,by rw[show max ok 1=ok by lia];exact hs⟩))
 ·rintro k c aW L9 hk ⟨rfl,b',hp,hf,oG⟩;unfold X8;refine wpS_bind (FP (IP (I:=λx c eh=>eh=aW/\∃l r,c=(none,l,r)/\l<=r/\r<=k/\(∀i,i<l->lt (FN (lo+i)) (FN (lo+k))=true)/\(∀i,r<=i->i<k->lt (FN (lo+k)) (FN (lo+i))=true)/\r-l+x<=k) (Q:=λc eh=>eh=aW/\∃l r,c=(none,l,r)/\l<=k/\(∀i,i<l->lt (FN (lo+i)) (FN (lo+k))=true)/\(∀i,l<=i->i<k->lt (FN (lo+k)) (FN (lo+i))=true)) ⟨rfl,0,k,rfl,by lia,by lia,λi hi=>by lia,λi h1 h2=>by lia,by lia⟩))
  ·rintro x c eh _ hx ⟨rfl,l,r,rfl,a1,a2,a3,a4,a5⟩;dsimp only;by_cases X_:l>=r
   ·rw[A7 X_];exact Au ⟨rfl,l,r,rfl,by lia,a3,λi h1 h2=>Γ i⟩
   ·rw[A6 X_];refine wpS_bind (ll b');dsimp only;cases e:lt (MY (lo+k)) (MY (lo+(l+r)/2))with
    |true=>
     rw[if_pos rfl];refine wpS_pure ⟨rfl,l,(l+r)/2,rfl,by lia,by lia,a3,λi h1 h2=>?_,by lia⟩;by_cases ei:i=(l+r)/2
     ·subst ei;exact e
     ·exact Ka axs (Pb A3) (Pb A3) e (cI (lo+(l+r)/2) (lo+i) (by lia))
    |false=>
     rw[if_neg A9];have e':=b'.no C (i:=lo+k) (j:=lo+(l+r)/2) (by lia) (by lia) (by lia) e;refine wpS_pure ⟨rfl,(l+r)/2+1,r,rfl,by lia,a2,λi h1=>?_,a4,by lia⟩;by_cases ei:i=(l+r)/2
     ·subst ei;exact e'
     ·exact Ka axs (Pb A3) (Pb A3) (cI (lo+i) (lo+(l+r)/2) (by lia)) e'
  ·rintro c eh ⟨rfl,l,r,rfl,a1,a2,a3,a4,a5⟩;exact⟨rfl,l,r,rfl,by lia,a3,λi h1 h2=>Γ i⟩
  rintro c eh ⟨rfl,l,r,rfl,a1,a2,a3⟩;dsimp only;refine wpS_bind ?_;rw[moveDown'_eq];refine wpS_modify (Au ?_);have hsz:lo+k<(AE eh).size:=by rw[b'.size];lia
  have gb:=λt=>awh (xs:=AE eh) hsz (d:=lo+k-(lo+l)) (by lia) t
  have es:lo+k-(lo+k-(lo+l))=lo+l:=by lia
  rw[es]at gb;refine⟨rfl,b'.set (bubble_perm _ _ _),hp,λt ht=>?_,λi j hi vV hj=>?_⟩
  ·show gg (bubble l8 (lo+k) (lo+k-(lo+l))) t=_;rw[gb,A6 A3,A6 A3];exact hf t ht
  ·show lt (gg (bubble l8 (lo+k) (lo+k-(lo+l))) i) (gg (bubble l8 (lo+k) (lo+k-(lo+l))) j)=true;rw[gb,gb];have a2':∀t,lo<=t->t<lo+l->lt (MY t) (MY (lo+k))=true:=λt h1 h2=>by have:=a2 (t-lo) (by lia);rw[show lo+(t-lo)=t by lia]at this;exact this
   have a3':∀t,lo+l<=t->t<lo+k->lt (MY (lo+k)) (MY t)=true:=λt h1 h2=>by have:=a3 (t-lo) (by lia) (by lia);rw[show lo+(t-lo)=t by lia]at this;exact this
   by_cases e1:i=lo+l
   ·rw[A7 e1,A6 A3,A7 A3];exact a3' _ (by lia) (by lia)
   ·rw[A6 e1];by_cases e2:lo+l<i/\i<=lo+k
    ·rw[A7 e2,A6 A3,A7 A3];exact qF A3
    ·rw[A6 e2];by_cases e3:j=lo+l
     ·rw[A7 e3];exact a2' _ (by lia) (by lia)
     ·rw[A6 e3];by_cases e4:lo+l<j/\j<=lo+k
      ·rw[A7 e4];exact qF A3
      ·rw[A6 e4];exact qF A3
 ·rintro c aW ⟨rfl,b',hp,hf,oG⟩;rw[show max (max ok 1) n=n by lia]at oG;exact⟨rfl,b',hp,hf,oG⟩
 ·rintro c aW ⟨rfl,b',hp,hf,oG⟩;exact Au (q aW b' hp hf oG)
end
theorem atz(ys:List Keyed) (j):∀(k:Nat)(xs:Array Keyed),j+k+ys.length<=xs.size->∀t:Nat,((ys.zipIdx k).foldl Zz xs)[t]?=if j+k<=t/\t<j+k+ys.length then ys[t-(j+k)]? else xs[t]?:=by
 induction ys with
 |nil=>
  intro k xs h t;rw[A6 (λz=>by have z1:=z.1;have z2:=z.2;simp only[List.length_nil]at z2;lia)];rfl
 |cons y ys ih=>
  intro k xs h t;rw[List.zipIdx_cons,List.foldl_cons,ih (k+1) _ (by simp at h⊢;lia) t];simp only[List.length_cons]at h⊢;by_cases h1:j+(k+1)<=t/\t<j+(k+1)+ys.length
  ·rw[A7 h1,A7 A3,show t-(j+k)=(t-(j+(k+1)))+1 by lia];rfl
  ·rw[A6 h1,Array.getElem?_setIfInBounds];by_cases h2:j+k=t
   ·subst h2;rw[if_pos rfl,A7 A3,A7 A3];simp
   ·rw[A6 h2,A6 A3]
theorem auQ(ys:List Keyed) (j) (xs:Array Keyed) (h:j+ys.length<=xs.size):(ys.zipIdx.foldl Zz xs).toList=xs.toList.take j++ys++xs.toList.drop (j+ys.length):=by
 apply List.ext_getElem?;intro t;rw[Array.getElem?_toList,atz ys j 0 xs A3 t,Nat.add_zero];by_cases h1:t<j
 ·rw[A6 A3,List.append_assoc,Bi (by simp;lia),List.getElem?_take,A7 h1,Array.getElem?_toList]
 ·by_cases h2:t<j+ys.length
  ·rw[A7 A3,List.append_assoc,Br (by simp;lia),Bi (by simp;lia)]
   congr 1
   simp
   lia
  ·rw[A6 A3,Br (by simp;lia),List.getElem?_drop,Array.getElem?_toList]
   congr 1
   simp
   lia
section
variable{prog:Program}{w:World}{A:Around}{E:Value->Shared->Prop}{s:Shared}{X:List Keyed}{κ:SortKind}{lt:Keyed->Keyed->Bool}
theorem Sw.pw{p:Nat}(h:Sw lt xs p (p+m)):Pw lt ((NX p).take m):=by
 refine List.pairwise_iff_getElem.mpr ?_;intro i j hi hj vV;have F9:j<m/\p+j<xs.size:=by simp at hj;lia
 have e1:((NX p).take m)[i]=gg xs (p+i):=by
  have:((NX p).take m)[i]?=some (JD (p+i)):=by rw[List.getElem?_take,A7 A3,List.getElem?_drop,Array.getElem?_toList];exact mf A3
  exact(AM this).2
 have e2:((NX p).take m)[j]=gg xs (p+j):=by
  have:((NX p).take m)[j]?=some (JD (p+j)):=by rw[List.getElem?_take,A7 A3,List.getElem?_drop,Array.getElem?_toList];exact mf A3
  exact(AM this).2
 rw[e1,e2];exact h _ _ (by lia) (by lia) (by lia)
theorem arF{xs}{p t:Nat}(h:t<m)(hs:p+m<=xs.size):((NX p).take m)[t]?=some (JD (p+t)):=by
 rw[List.getElem?_take,A7 h,List.getElem?_drop,Array.getElem?_toList];exact mf A3
variable(C:HN prog w A s X κ lt)
include C
theorem ahd{st:SortSt}{p:Nat}(b:SB X κ st)(e1:(Al st)[i]?=some (p,m,v))(e2:(Al st)[i+1]?=some (p+m,n,u))(hm:1<=m)(hn:1<=n)(hX:p+m+n<=X.length)(s1:Sw lt (AE st) p (p+m))(s2:Sw lt (AE st) (p+m) (p+m+n))
  (q:∀aW,SB X κ aW->pendingOf aW=((Al st).setIfInBounds i (p,m+n,v)).eraseIdxIfInBounds (i+1)->(∀t,t<p∨p+m+n<=t->gg Nj t=gg Bw t)->Sw lt (AE aW) p (p+m+n)->Q true aW):wpS AR A E s (VT i) Q st:=by
 rw[atA];refine wpS_bind Hs;rw[e1,e2];dsimp only;refine wpS_bind (aiN ?_);have hsz:=b.size;refine wpS_bind (OO (RO (k:=p+m) (by lia)));have mem:∀t,t<X.length->gg Bw t∈X:=λt h=>Gm h
 generalize Oi:setPending st (((Al st).setIfInBounds i (p,m+n,v)).eraseIdxIfInBounds (i+1))=Cq;have Ct:arrOf Cq=arrOf st:=by rw[<-Oi]
 have b1:SB X κ Cq:=by rw[<-Oi];exact⟨b.pm,b.kd,b.fl⟩
 have PB:pendingOf Cq=((Al st).setIfInBounds i (p,m+n,v)).eraseIdxIfInBounds (i+1):=by rw[<-Oi]
 refine wpS_bind (rN C (λt=>Bo (p+t)) b1.kd xj (λt ht=>⟨mf A3,K9 A3⟩) (λx y h1 h2=>s1 _ _ (by lia) (by lia) (by lia)) (by lia) λk hk g1 g2=>?_);dsimp only;have RQ:∀t,t<k->lt (Bo (p+t)) (Bo (p+m))=true:=λt ht=>by
  have:=g1 t ht;simp only[mz,Bool.false_eq_true,if_false,Bool.not_eq_true']at this;exact aiz C
 have awO:∀t,k<=t->t<m->lt (Bo (p+m)) (Bo (p+t))=true:=λt h1 h2=>by
  have:=g2 t h1 h2;simp only[mz,Bool.false_eq_true,if_false,Bool.not_eq_false']at this;exact this
 have tr:=λ{x y z:Nat}(hx:x<X.length)(hy:y<X.length)(hz:z<X.length)=>C.tr _ (mem x hx) _ (mem y hy) _ (mem z hz)
 by_cases ek:(m-k==0)=true
 ·rw[A7 ek];have:k=m:=by have:=beq_iff_eq.mp ek;lia
  subst this;refine wpS_pure (q Cq b1 PB (λ_ _=>by rw[Ct]) ?_);rw[Ct];intro x y hx Cr hy;by_cases h1:y<p+k
  ·exact s1 x y hx Cr h1
  ·by_cases h2:p+k<=x
   ·exact s2 x y h2 Cr hy
   ·have h3:=RQ (x-p) (by lia);rw[show p+(x-p)=x by lia]at h3;by_cases h4:y=p+k
    ·rw[h4];exact h3
    ·exact sQ h3 (tQ (p+k) y A3 hy)
 rw[A6 ek];have ek:k<m:=by
  have:m-k≠0:=λz=>ek Cw
  lia
 refine wpS_bind (OO (RO (k:=p+k+(m-k)-1) (by lia)));rw[show p+k+(m-k)-1=p+m-1 by lia];refine wpS_bind (rN C (λt=>Bo (p+m+t)) b1.kd xj (λt ht=>⟨mf A3,K9 A3⟩) (λx y h1 h2=>s2 _ _ (by lia) (by lia) (by lia)) (by lia) λl hl g3 g4=>?_);dsimp only;have anM:∀t,t<l->lt (Bo (p+m+t)) (Bo (p+m-1))=true:=λt ht=>by
  have:=g3 t ht;simp only[mz,if_true]at this;exact this
 have Yb:∀t,l<=t->t<n->lt (Bo (p+m-1)) (Bo (p+m+t))=true:=λt h1 h2=>by
  have:=g4 t h1 h2;simp only[mz,if_true]at this;exact aiz C
 have N1:0<l:=by
  rcases Nat.lt_or_ge 0 l with h|h
  ·exact h
  ·have h1:=Yb 0 (by lia) (by lia);have h2:=xy (m-1);rw[show p+(m-1)=p+m-1 by lia]at h2;rw[Nat.add_zero]at h1;have:=C.as _ (K9 A3) _ (K9 A3) h1;rw[h2]at this;cases this
 rw[A6 (by simp;lia)];have ex:((AE st).extract (p+k) (p+m)).toList=((AE st).toList.drop (p+k)).take (m-k):=by
  simp[Array.toList_extract,List.extract_eq_take_drop]
  congr 1
  lia
 have ey:((AE st).extract (p+m) (p+m+l)).toList=((AE st).toList.drop (p+m)).take l:=by
  simp[Array.toList_extract,List.extract_eq_take_drop]
 have Yc:∀t,t<m-k->(((AE st).toList.drop (p+k)).take (m-k))[t]?=some (Bo (p+k+t)):=λt ht=>aqC ht
 have Yd:∀t,t<l->(((AE st).toList.drop (p+m)).take l)[t]?=some (Bo (p+m+t)):=λt ht=>aqC ht
 have lx:(((AE st).toList.drop (p+k)).take (m-k)).length=m-k:=by simp;lia
 have ly:(((AE st).toList.drop (p+m)).take l).length=l:=by simp;lia
 have Ug:∀x∈((AE st).toList.drop (p+k)).take (m-k),∃t,t<m-k/\x=gg Bw (p+k+t):=λx hx=>by
  obtain⟨t,ht⟩:=pU hx;have iO:=(AM ht).1;rw[lx]at iO;rw[Yc t iO]at ht;exact⟨t,iO,(Aw ht).symm⟩
 have Uh:∀x∈((AE st).toList.drop (p+m)).take l,∃t,t<l/\x=gg Bw (p+m+t):=λx hx=>by
  obtain⟨t,ht⟩:=pU hx;have iO:=(AM ht).1;rw[ly]at iO;rw[Yd t iO]at ht;exact⟨t,iO,(Aw ht).symm⟩
 have MM:MC X lt ((AE st).extract (p+k) (p+m)).toList ((AE st).extract (p+m) (p+m+l)).toList:=by
  rw[ex,ey];refine⟨Sw.pw λx y h1 h2 h3=>mF x y A3 h2,Sw.pw λx y h1 h2 h3=>s2 x y h1 h2 A3,λx hx=>?_,λx hx=>?_,λx hx y hy=>?_,λx hx y hy=>?_,λy hy x hx=>?_⟩
  ·obtain⟨t,ht,rfl⟩:=Ug x hx;exact K9 A3
  ·obtain⟨t,ht,rfl⟩:=Uh x hx;exact K9 A3
  ·obtain⟨t,ht,rfl⟩:=Ug x hx;obtain⟨u,hu,rfl⟩:=Uh y hy;exact b.inj C (by lia) (by lia) (by lia)
  ·obtain⟨t,ht,rfl⟩:=Ug x hx;rw[Yd 0 N1]at hy;cases hy;have:=xy (k+t);rw[<-Nat.add_assoc]at this;exact this
  ·obtain⟨t,ht,rfl⟩:=Uh y hy;rw[lx,Yc _ (by lia)]at hx;cases hx;rw[show p+k+(m-k-1)=p+m-1 by lia];exact anM t ht
 have fin:∀r eh,Eg Cq eh->MG lt ((AE st).extract (p+k) (p+m)).toList ((AE st).extract (p+m) (p+m+l)).toList r.toList->wpS AR A E s (do
   modify λst=>Nn st
   return (XY (<-get)).isNone) Q eh:=λr eh eg mg=>by
  refine wpS_bind (Qh (Fo (ajf (Au ?_))));have PD:arrOf eh=arrOf st:=eg.2.1.trans Ct;have Ui:failedOf eh=none:=eg.2.2.2.trans b1.fl;rw[ex,ey]at mg;have L':r.toList.length=m-k+l:=by have:=mg.1.length_eq;rw[List.length_append,lx,ly]at this;exact this
  have el:(AE oe).toList=(AE st).toList.take (p+k)++r.toList++(AE st).toList.drop (p+m+l):=by
   show(r.toList.zipIdx.foldl (λc q=>aiC (p+k+q.2)) (AE eh)).toList=_;rw[auQ _ _ _ (by rw[PD,L'];lia),PD,L',show p+k+(m-k+l)=p+m+l by lia]
  have esp:(AE st).toList=(AE st).toList.take (p+k)++(((AE st).toList.drop (p+k)).take (m-k)++((AE st).toList.drop (p+m)).take l)++(AE st).toList.drop (p+m+l):=by
   have h1:=qr (AE st).toList (p+k) (m-k);have h2:=qr (AE st).toList (p+m) l;rw[show p+k+(m-k)=p+m by lia]at h1
   conv=>lhs;rw[<-Sn (p+k) (AE st).toList,h1,h2]
   simp only[List.append_assoc]
  have Wu:∀t,gg Qa t=((AE oe).toList[t]?).getD (.none, .none):=λt=>by rw[qt,Array.getElem?_toList]
  have g0:∀t,gg Bw t=((AE st).toList[t]?).getD (.none, .none):=λt=>by rw[qt,Array.getElem?_toList]
  have Oj:∀t,t<p+k->gg Qa t=gg Bw t:=λt ht=>by
   rw[Wu,g0,el,List.append_assoc,Bi (by simp;lia),List.getElem?_take,A7 ht]
  have agy:∀t,p+m+l<=t->gg Qa t=gg Bw t:=λt ht=>by
   have iO:((AE st).toList.take (p+k)++r.toList).length=p+m+l:=by
    rw[List.length_append,L',List.length_take,Array.length_toList]
    lia
   rw[Wu,g0,el,Br A3,List.getElem?_drop,iO]
   congr 2
   lia
  have aaH:∀t,p+k<=t->t<p+m+l->r.toList[t-(p+k)]?=some (gg Qa t):=λt h1 h2=>by
   rw[Wu,el,List.append_assoc,Br (by simp;lia),Bi (by rw[List.length_take,Array.length_toList];lia)];rw[show(List.take (p+k) (AE st).toList).length=p+k by simp;lia];rw[Bu A3];rfl
  have cont:∀t,p+k<=t->t<p+m+l->∃u,p+k<=u/\u<p+m+l/\gg Qa t=gg Bw u:=λt h1 h2=>by
   have:=mg.1.mem_iff.mp (B7 (aaH t h1 h2));rcases List.mem_append.mp this with z|z
   ·obtain⟨u,hu,e⟩:=Ug _ z;exact⟨p+k+u,by lia,by lia,e⟩
   ·obtain⟨u,hu,e⟩:=Uh _ z;exact⟨p+m+u,by lia,by lia,e⟩
  have hb:SB X κ (Nn eh):=by
   refine⟨?_,YV b1.kd,Ui⟩;rw[el];refine List.Perm.trans ?_ b.pm
   conv=>rhs;rw[esp]
   exact(xT mg.1).append_right _
  have Qt:(XY oe).isNone=true:=by rw[show failedOf (Nn eh)=failedOf eh from rfl,Ui];rfl
  rw[Qt];refine q _ hb (eg.2.2.1.trans PB) (λt ht=>?_) λx y hx Cr hy=>?_
  ·rcases ht with ht|ht
   ·exact Oj t A3
   ·exact Qw t
  ·
   have A1:∀t u,p<=t->t<p+k->p+k<=u->u<p+m+n->lt (Bo t) (Bo u)=true:=λt u h1 h2 h3 h4=>by
    by_cases h5:u<p+m
    ·exact s1 t u h1 A3 h5
    ·have h6:=RQ (t-p) (by lia);rw[show p+(t-p)=t by lia]at h6;by_cases h7:u=p+m
     ·rw[h7];exact h6
     ·exact sQ h6 (tQ (p+m) u A3 h4)
   have A2:∀t u,p+k<=t->t<p+m+l->p+m+l<=u->u<p+m+n->lt (Bo t) (Bo u)=true:=λt u h1 h2 h3 h4=>by
    by_cases h5:p+m<=t
    ·exact s2 t u h5 A3 h4
    ·have h6:=Yb (u-(p+m)) (by lia) (by lia);rw[show p+m+(u-(p+m))=u by lia]at h6;by_cases h7:t=p+m-1
     ·rw[h7];exact h6
     ·exact sQ (mF t (p+m-1) (by lia) (by lia)) h6
   by_cases h1:x<p+k
   ·rw[Oj x h1];by_cases h2:y<p+k
    ·rw[Oj y h2];exact mF x y hx Cr
    ·by_cases h3:y<p+m+l
     ·obtain⟨u,u1,u2,u3⟩:=cont y A3 h3;rw[u3];exact A1 x u hx h1 u1 A3
     ·rw[Qw y];exact A1 x y hx h1 A3 hy
   ·by_cases h3:x<p+m+l
    ·by_cases h4:y<p+m+l
     ·exact mg.2.at (i:=x-(p+k)) (j:=y-(p+k)) (by lia) (arj x h3) (arj y h4)
     ·rw[Qw y];obtain⟨u,u1,u2,u3⟩:=cont x A3 h3;rw[u3];exact A2 u y u1 u2 A3 hy
    ·rw[Qw x,Qw y];exact tQ x y Cr hy
 have sx:0<((AE st).extract (p+k) (p+m)).size:=by simp;lia
 have sy:0<((AE st).extract (p+m) (p+m+l)).size:=by simp;lia
 by_cases Ye:m-k<=l
 ·rw[A7 Ye];exact Fo (axB C MM b1.kd sx sy fin)
 ·rw[A6 Ye];exact Fo (asM C MM b1.kd sx sy fin)
end
abbrev Rn:=Nat×Nat×Nat
def Ch:List Rn->Nat->Nat->Prop
 |[],s,e=>s=e
 |q::r,s,e=>q.1=s/\1<=q.2.1/\Ch r (s+q.2.1) e
theorem Ch.all:∀{l:List Rn}{s e:Nat},Ch l s e->s+l.length<=e/\∀q∈l,s<=q.1/\q.1+q.2.1<=e
 |[],s,e,h=>⟨by have:s=e:=h;simp;lia,λq hq=>by cases hq⟩
 |q::r,s,e,⟨h1,h2,h3⟩=>by
  obtain⟨a1,a2⟩:=Ch.all h3;refine⟨by simp;lia,λx hx=>?_⟩;rcases List.mem_cons.mp hx with rfl|hx
  ·lia
  ·have:=a2 x hx;lia
theorem Ch.split:∀{l r:List Rn}{s e:Nat},Ch (l++r) s e↔∃m,Ch l s m/\Ch r m e
 |[],r,s,e=>⟨λh=>⟨s,rfl,h⟩,λ⟨m,h1,h2⟩=>by have:s=m:=h1;rw[this];exact h2⟩
 |q::l,r,s,e=>by
  constructor
  ·rintro⟨h1,h2,h3⟩;obtain⟨m,a1,a2⟩:=Ch.split.mp h3;exact⟨m,⟨h1,h2,a1⟩,a2⟩
  ·rintro⟨m,⟨h1,h2,a1⟩,a2⟩;exact⟨h1,h2,Ch.split.mpr ⟨m,a1,a2⟩⟩
theorem Ch.mod(hf:∀q,(f q).1=q.1/\(f q).2.1=q.2.1):∀{l:List Rn}{j s e:Nat},Ch l s e->Ch (l.modify j f) s e
 |[],j,s,e,h=>by simpa using h
 |q::r,0,s,e,h=>by
  rw[List.modify_zero_cons];obtain⟨h1,h2,h3⟩:=h;refine⟨by rw[(hf q).1];exact h1,by rw[(hf q).2];exact h2,by rw[(hf q).2];exact h3⟩
 |q::r,j+1,s,e,h=>by
  rw[List.modify_succ_cons];exact⟨h.1,h.2.1,Ch.mod hf h.2.2⟩
theorem D6:∀{l:List Rn}{j:Nat}{q:Rn},q∈l.modify j f->q∈l∨∃x∈l,q=f x
 |[],j,q,h=>by simp at h
 |x::r,0,q,h=>by
  rw[List.modify_zero_cons]at h;rcases List.mem_cons.mp h with h|h
  ·exact .inr ⟨x,AA,h⟩
  ·exact .inl (Ep h)
 |x::r,j+1,q,h=>by
  rw[List.modify_succ_cons]at h;rcases List.mem_cons.mp h with h|h
  ·exact .inl (by rw[h];simp)
  ·rcases D6 h with h|⟨y,h1,h2⟩
   ·exact .inl (Ep h)
   ·exact .inr ⟨y,Ep h1,h2⟩
structure RI(X:List Keyed)(κ:SortKind)(lt:Keyed->Keyed->Bool)(st:SortSt)(lo n:Nat):Prop where
 b:SB X κ st
 ch:Ch (Al st).toList 0 lo
 sw:∀q∈(Al st).toList,Sw lt (AE st) q.1 (q.1+q.2.1)
 tl:Sw lt (AE st) lo (lo+n)
section
variable{prog:Program}{w:World}{A:Around}{E:Value->Shared->Prop}{s:Shared}{X:List Keyed}{κ:SortKind}{lt:Keyed->Keyed->Bool}(C:HN prog w A s X κ lt)
include C
theorem Ma{st:SortSt}{lo n i:Nat}(r:RI X κ lt st lo n)(Pl:lo<=X.length)(hi:i+1<(Al st).size)(q:∀aW,RI X κ lt aW lo n->(Al aW).size+1=(Al st).size->Q true aW):wpS AR A E s (VT i) Q st:=by
 have hl:(Al st).toList.length=(Al st).size:=AA;obtain⟨P1,x,y,P2,e,el⟩:∃P1 x y P2,(Al st).toList=P1++x::y::P2/\P1.length=i:=by
  refine⟨(Al st).toList.take i,(Al st).toList[i],(Al st).toList[i+1],(Al st).toList.drop (i+2),?_,by simp;lia⟩
  conv=>lhs;rw[<-Sn i (Al st).toList]
  rw[Zv A3,Zv A3]
 obtain⟨p,m,v⟩:=x;obtain⟨p2,k,u⟩:=y;have ch:=r.ch;rw[e]at ch;obtain⟨mid,c1,c2⟩:=Ch.split.mp ch;obtain⟨d1,d2,d3,d4,d5⟩:=c2;dsimp only at d1 d2 d3 d4 d5;subst d1 d3;have a1:=c1.all;have a2:=d5.all;have i1:(Al st)[i]?=some (p,m,v):=by rw[<-Array.getElem?_toList,e,Br A3,el];simp
 have i2:(Al st)[i+1]?=some (p+m,k,u):=by rw[<-Array.getElem?_toList,e,Br A3,el];simp
 have w1:=r.sw (p,m,v) (by rw[e];simp);have w2:=r.sw (p+m,k,u) (by rw[e];simp);refine ahd C r.b i1 i2 d2 d4 A3 w1 w2 λaW b' hp Ol VR=>?_
 have ep:(Al aW).toList=P1++(p,m+k,v)::P2:=by
  rw[hp];simp only[Array.toList_eraseIdxIfInBounds,Array.toList_setIfInBounds];rw[e,List.set_append_right _ _ (by lia),el,Nat.sub_self,List.set_cons_zero,List.eraseIdx_append_of_length_le A3,el,show i+1-i=1 by lia];rfl
 refine q aW ⟨b',?_,λz hz=>?_,r.tl.congr λt h1 h2=>vF t⟩ ?_
 ·rw[ep];refine Ch.split.mpr ⟨p,c1,rfl,by show 1<=m+k;lia,?_⟩;show Ch P2 (p+(m+k)) lo;rw[<-Nat.add_assoc];exact d5
 ·rw[ep]at hz;rcases List.mem_append.mp hz with hz|hz
  ·have h1:=a1.2 z hz;exact(r.sw z (by rw[e];simp[hz])).congr λt _ h2=>Ol t (.inl A3)
  ·rcases List.mem_cons.mp hz with rfl|hz
   ·show Sw lt (AE aW) p (p+(m+k));rw[<-Nat.add_assoc];exact VR
   ·have h1:=a2.2 z hz;exact(r.sw z (by rw[e];simp[hz])).congr λt h2 _=>vF t
 ·have h1:=congrArg List.length ep;have h2:=ZV e;simp at h1 h2
  lia
theorem avJ{st:SortSt}{lo n N w':Nat}(r:RI X κ lt st lo n)(Pl:lo<=X.length)(q:∀aW,RI X κ lt aW lo n->Q (none,()) aW):wpS AR A E s (Wr N w') Q st:=by
 unfold Wr;refine wpS_forRange (I:=λ_ c aW=>c=(none,())/\RI X κ lt aW lo n) ?_ (λc aW h=>by rw[h.1];exact q aW h.2) ⟨rfl,r⟩;rintro x c aW _ _ ⟨rfl,r'⟩;refine wpS_bind Hs;by_cases hs:(Al aW).size>1
 ·rw[A7 hs];have e:(Al aW)[(Al aW).size-2]?=some (Al aW)[(Al aW).size-2]:=AA;rw[e];generalize (Al aW)[(Al aW).size-2]=z;obtain⟨z1,z2,z3⟩:=z;dsimp only;split
  ·exact Au (q aW r')
  ·refine wpS_bind (Ma C r' Pl A3 λeh r2 _=>?_);rw[if_neg A9];exact Au ⟨rfl,r2⟩
 ·rw[A6 hs];exact Au (q aW r')
theorem abU{st:SortSt}{lo n N:Nat}(r:RI X κ lt st lo n)(h1:1<=n)(Pl:lo+n<=X.length)(q:∀aW,RI X κ lt aW (lo+n) 0->Q (.yield (none,lo+n)) aW):wpS AR A E s (Ue N lo n) Q st:=by
 have push:∀aW,RI X κ lt aW lo n->RI X κ lt (Ud lo n aW) (lo+n) 0:=λaW r'=>by
  have ep:(Al (Ud lo n aW)).toList=(Al aW).toList++[(lo,n,0)]:=by
   show((Al aW).push (lo,n,0)).toList=_;simp
  refine⟨⟨r'.b.pm,r'.b.kd,r'.b.fl⟩,?_,λz hz=>?_,λi j a b c=>by lia⟩
  ·rw[ep];exact Ch.split.mpr ⟨lo,r'.ch,rfl,h1,rfl⟩
  ·rw[ep]at hz;rcases List.mem_append.mp hz with hz|hz
   ·exact r'.sw z hz
   ·have:z=(lo,n,0):=by simpa using hz
    subst this;exact r'.tl
 unfold Ue;refine wpS_bind Hs;cases e:(Al st).back? with
 |none=>exact Fo (Qh (Au (E8 (push _ r))))
 |some z=>
  obtain⟨z1,z2,z3⟩:=z;dsimp only;refine wpS_bind (avJ C r A3 λeh r2=>?_);dsimp only;refine wpS_bind (Qh (Fo (Qh (Au (E8 (push _ ?_))))));have ep:(Al (X9 (Vm (2*z1+z2) (2*z1+z2+z2+n)) eh)).toList=(Al eh).toList.modify ((Al eh).size-1) λ(p,l,_)=>(p,l,Vm (2*z1+z2) (2*z1+z2+z2+n)):=by
   show((Al eh).modify _ _).toList=_;simp
  refine⟨⟨r2.b.pm,r2.b.kd,r2.b.fl⟩,?_,λz hz=>?_,r2.tl⟩
  ·rw[ep];refine Ch.mod ?_ r2.ch;exact λ_=>⟨rfl,rfl⟩
  ·rw[ep]at hz;rcases D6 hz with hz|⟨x,h1,h2⟩
   ·exact r2.sw z hz
   ·rw[h2];exact r2.sw x h1
theorem afg{st:SortSt}{N}(hN:N=X.length)(h0:0<N)(r:RI X κ lt st N 0)(q:∀aW,SB X κ aW->Sw lt (AE aW) 0 N->Q (none,()) aW):wpS AR A E s (Ws N) Q st:=by
 have one:∀aW,RI X κ lt aW N 0->(Al aW).size<=1->Q (none,()) aW:=λaW r' hs=>by
  have ch:=r'.ch;have sw:=r'.sw;cases e:(Al aW).toList with
  |nil=>rw[e]at ch;have:0=N:=ch;lia
  |cons x l=>
   have hl:l=[]:=by
    have:=ZV e;simp at this;exact L4 A3
   subst hl;rw[e]at ch sw;obtain⟨c1,c2,c3⟩:=ch;have c3:0+x.2.1=N:=c3;have:=sw x A9;rw[c1,c3]at this;exact q aW r'.b this
 unfold Ws;refine wpS_forRange (I:=λx c aW=>c=(none,())/\RI X κ lt aW N 0/\((Al aW).size+x<=N∨(Al aW).size<=1)) ?_ ?_ ⟨rfl,r, .inl ?_⟩
 ·rintro x c aW _ hx ⟨rfl,r',hs⟩;refine wpS_bind Hs;by_cases h1:(Al aW).size<=1
  ·rw[A7 h1];exact Au (one aW r' h1)
  ·rw[A6 h1];refine wpS_bind (Ma C r' A3 ?_ λeh r2 By=>?_)
   ·have key:∀c:Bool,(if c=true then(Al aW).size-2-1 else(Al aW).size-2)+1<(Al aW).size:=λc=>by cases c<;>simp<;>lia
    exact key _
   ·rw[if_neg A9];exact Au ⟨rfl,r2,by lia⟩
 ·rintro c aW ⟨rfl,r',hs⟩;exact one aW r' (by rcases hs with hs|hs<;>lia)
 ·have:=r.ch.all.1;simp at this
  lia
theorem auo{st:SortSt}(h0:0<X.length)(b:SB X κ st)(hp:pendingOf st=#[])(q:∀aW,SB X κ aW->Sw lt (AE aW) 0 X.length->Q () aW):wpS AR A E s sortRuns' Q st:=by
 rw[awP];refine wpS_bind Hs;rw[b.size];refine wpS_bind (FP (IP (I:=λx c aW=>∃lo,c=(none,lo)/\RI X κ lt aW lo 0/\lo<=X.length/\x<=lo) (Q:=λc aW=>c.1=none/\RI X κ lt aW X.length 0) ⟨0,rfl,⟨b,by rw[hp];rfl,(λq hq=>by rw[hp]at hq;cases hq),λi j a b c=>by lia⟩,by lia,by lia⟩))
 ·rintro x c aW _ hx ⟨lo,rfl,r,Pl,Jq⟩;dsimp only;by_cases h1:lo>=X.length
  ·rw[A7 h1];have:lo=X.length:=by lia
   subst this;exact Au ⟨rfl,r⟩
  ·rw[A6 h1];refine wpS_bind (alr C r.b A3 (by lia) λm eh b2 BX Ui m1 m2 Uj=>?_);dsimp only;have r2:RI X κ lt eh lo m:=⟨b2,by rw[BX];exact r.ch,λz hz=>by
    rw[BX]at hz;have:=r.ch.all.2 z hz;exact(r.sw z hz).congr λt _ h2=>Ui t A3,Uj⟩
   by_cases h2:m<minRun' X.length X.length 0
   ·rw[A7 h2];refine wpS_bind LD;refine wpS_bind (afE C b2 (n:=min (X.length-lo) (minRun' X.length X.length 0)) (by lia) m1 A3 Uj λGB b3 RR hf3 sw3=>?_);rw[if_neg A9];refine abU C ⟨b3,by rw[RR,BX];exact r.ch,λz hz=>?_,sw3⟩ A3 (by lia) λTx r4=>⟨_,rfl,r4,by lia,by lia⟩
    rw[RR]at hz;have:=r2.ch.all.2 z hz;exact(r2.sw z hz).congr λt _ h2=>hf3 t A3
   ·rw[A6 h2];exact abU C r2 m1 A3 λTx r4=>⟨_,rfl,r4,by lia,by lia⟩
 ·rintro c aW ⟨lo,rfl,r,Pl,Jq⟩;have:lo=X.length:=by lia
  subst this;exact⟨rfl,r⟩
 ·rintro⟨c1,c2⟩ aW ⟨e,r⟩;dsimp only at e⊢;subst e;exact Fo (afg C rfl h0 r λeh b2 Uj=>Au (q eh b2 Uj))
end
open Classical in
noncomputable def Ib(X:List Keyed)(x:Keyed):Nat:=if h:∃i:Nat,X[i]?=some x then Classical.choose h else 0
theorem o6(h:x∈X):X[Ib X x]?=some x:=by
 have h':∃i:Nat,X[i]?=some x:=pU h;unfold Ib;rw[dif_pos h'];exact Classical.choose_spec h'
theorem aly{X}(nd:X.Nodup)(h:X[i]?=some x):Ib X x=i:=by
 have:=o6 (B7 h);exact(Jf (AM this).1).mp (this.trans h.symm)
theorem o7(h:x∈X):Ib X x<X.length:=(AM (o6 h)).1
section
variable{prog:Program}{w:World}{A:Around}{E:Value->Shared->Prop}{s:Shared}{X:List Keyed}{κ:SortKind}{lt:Nat->Nat->Bool}
theorem apH{st:SortSt}(nd:X.Nodup)(h0:0<X.length)(L:Co X.length lt)(ha:(AE st).toList=X)(hk:kindOf st=κ)(hp:pendingOf st=#[])(hf:failedOf st=none)
  (hc:∀i j x y,X[i]?=some x->X[j]?=some y->∀C:Bool->Shared->Prop,C (lt i j) s->wpAny AR A (keyLt' κ x.1 y.1) C (λ_ _=>False) s)
  (q:∀p aW,zV X.length p->Sd lt p X.length->(AE aW).toList=p.toList.map (λi=>X.getD i (.none, .none))->failedOf aW=none->Q () aW):wpS AR A E s sortRuns' Q st:=by
 have C:HN prog w A s X κ λx y=>lt (Ib X x) (Ib X y):=by
  refine⟨λx hx y hy=>hc _ _ x y (o6 hx) (o6 hy),λx hx y hy z hz=>L.tr _ _ _ (o7 hx) (o7 hy) (o7 hz),λx hx y hy=>L.as _ _ (o7 hx) (o7 hy),λx hx y hy hn=>L.TX _ _ (o7 hx) (o7 hy) λe=>hn ?_,nd⟩;have h1:=o6 hx;rw[e,o6 hy]at h1;exact(Aw h1).symm
 refine auo C h0 ⟨by rw[ha],hk,hf⟩ hp λaW b sw=>?_
 have mem:∀x∈(AE aW).toList,x∈X:=λx hx=>arv hx
 refine q ((AE aW).map (Ib X)) aW ?_ (λi j vV hj=>?_) ?_ b.fl
 ·unfold zV;rw[Array.toList_map];have h1:=b.pm.map (Ib X);have h2:X.map (Ib X)=List.range X.length:=by
   apply List.ext_getElem
   ·simp
   ·intro i h1 h2;simp only[List.getElem_map,List.getElem_range];exact aly nd (by simp at h1;simp[h1])
  rw[h2]at h1;exact h1
 ·have:=sw i j SR vV hj;have g:∀k,k<X.length->gd ((AE aW).map (Ib X)) k=Ib X (FN k):=λk hk=>by
   have Hw:k<(AE aW).size:=by rw[b.size];exact hk
   rw[HM,qt];simp[Hw]
  rw[g i A3,g j hj];exact this
 ·rw[Array.toList_map,List.map_map]
  conv=>lhs;rw[<-List.map_id (AE aW).toList]
  apply List.map_congr_left;intro x hx;have:=o6 (mem x hx);simp[List.getD_eq_getElem?_getD,this]
theorem abq{ks vs:List Value}(hl:ks.length=vs.length)(h0:0<vs.length)(L:Co vs.length lt)(nd:ks.Nodup)
  (hc:∀i j,i<vs.length->j<vs.length->∀C:Bool->Shared->Prop,C (lt i j) s->wpAny AR A (keyLt' κ (ks.getD i .none) (ks.getD j .none)) C (λ_ _=>False) s):
  wpAny AR A ((sortRuns').run (SortSt.mk' κ Z0 #[] 7 none)) (λr s'=>∃p:Array Nat,s'=s/\zV vs.length p/\Sd lt p vs.length/\arrOf r.2=p.map (kas_item Z0)/\failedOf r.2=none) E s:=by
 have hz:(ks.zip vs).length=vs.length:=by rw[List.length_zip];lia
 have ea:(wY vs.toArray).toList=ks.zip vs:=AA;have ndz:(ks.zip vs).Nodup:=by
  refine List.pairwise_iff_getElem.mpr λi j hi hj vV e=>?_
  rw[List.getElem_zip,List.getElem_zip]at e;have:=(YZ nd).mp (Hi e).1
  lia
 have run:=apH (prog:=prog) (w:=w) (A:=A) (E:=E) (s:=s) (X:=ks.zip vs) (κ:=κ) (lt:=lt) (st:=SortSt.mk' κ Z0 #[] 7 none) (Q:=λ_ aW=>∃p:Array Nat,zV vs.length p/\Sd lt p vs.length/\arrOf aW=p.map (kas_item Z0)/\failedOf aW=none) ndz A3 (by rw[hz];exact L) ea rfl rfl rfl (λi j x y hx hy C h=>?_) λp aW h1 h2 h3 h4=>⟨p,by rw[<-hz];exact h1,by rw[<-hz];exact h2,?_,h4⟩
 ·unfold wpS at run;refine wpAny_mono run (λr s' ⟨h1,p,h2⟩=>⟨p,h1,h2⟩) λ_ _ e=>e
 ·obtain⟨x1,x2⟩:=x;obtain⟨y1,y2⟩:=y;have hi:=(AM hx).1;have hj:=(AM hy).1;rw[hz]at hi hj;obtain⟨e1,_⟩:=amG hx;obtain⟨e2,_⟩:=amG hy;have:=hc i j hi hj C h;simpa[List.getD_eq_getElem?_getD,e1,e2]using this
 ·apply Array.toList_inj.mp;rw[h3,Array.toList_map];apply List.map_congr_left;intro i _;unfold kas_item;rw[Array.getD_eq_getD_getElem?,<-Array.getElem?_toList,ea,List.getD_eq_getElem?_getD]
end
def Kp(a:Addr)(h h':Heap):Prop:=∀b o,b≠a->h.get? b=some o->h'.get? b=some o
section
variable{prog:Program}{w:World}{A:Around}{E:Value->Shared->Prop}{s:Shared}
theorem ajU{a}{vs:List Value}{lt}(ho:s.heap.get? a=some (JA n))(h2:2<=vs.length)(Ic:vs.length<10000)(RS:vs.Nodup)(L:Co vs.length lt)
  (hk:∀s',Kp a s.heap s'.heap->∀Q':SortKind->Shared->Prop,Q' κ s'->wpAny AR A (keyKind' vs.toArray) Q' QH s')
  (hc:∀i j,i<vs.length->j<vs.length->∀s',Kp a s.heap s'.heap->∀C:Bool->Shared->Prop,C (lt i j) s'->wpAny AR A (keyLt' κ (VL i) (VL j)) C (λ_ _=>False) s')
  (h:∀p h' c,zV vs.length p->Sd lt p vs.length->Kp a s.heap h'->h'.get? a=some (seqObj "list" (EO (p.toList.map λi=>EX i)) c)->P (.done (.ret .none)) {s with heap:=h'}):
  wpAny AR A (kD ⟨[.ref a],[]⟩) P E s:=by
 have s1:=Heap.SameBut.update s.heap a (Obj.mapSeq λ_=>(#[]:Array Value));obtain⟨e1,KP⟩:∃e1,(s.heap.update a (Obj.mapSeq λ_=>(#[]:Array Value))).get? a=some (seqObj "list" #[] e1):=⟨_,get?_update_seq ho λ_=>#[]⟩
 rw[list_sort_plain];refine wpAny_bind (listItems_at ho rfl (Ax (listUpdate_at ho rfl ?_ (by rw[List.size_toArray,sizeLine_eq];lia) (Nat.zero_le _))));refine wpAny_bind (seqEpoch_at KP rfl (Ax (pS (by show vs.length<=_;rw[sizeLine_eq];lia))));generalize hh:(((s.heap.update a (Obj.mapSeq λ_=>(#[]:Array Value))).push {cls:= .type "tuple",data:= .seq vs.toArray 0}).push {cls:= .type "list",data:= .seq #[] 0})=h3;have k3:Kp a s.heap h3:=λb o hb e=>by
  rw[<-hh];exact BL (BL ((s1.2 b hb).trans e))
 have Ou:h3.get? a=some (seqObj "list" #[] e1):=by
  rw[<-hh];exact BL (BL KP)
 show wpAny AR A _ P E {s with heap:=h3};dsimp only;have zT:¬vs.toArray.size<2:=by rw[List.size_toArray];lia
 rw[A6 zT,A6 zT];refine wpAny_bind (wpAny_mono (hk {s with heap:=h3} k3 (λUk s'=>Uk=κ/\s'={s with heap:=h3}) ⟨rfl,rfl⟩) ?_ λ_ _ x=>x.elim);rintro _ _ ⟨rfl,rfl⟩;refine wpAny_bind (wpAny_mono (abq (lt:=lt) rfl (by lia) L RS λi j hi hj C hC=>hc i j hi hj {s with heap:=h3} k3 C hC) ?_ λ_ _ e=>e);rintro⟨⟨⟩,aW⟩ s' ⟨p,rfl,hp,hs,Ww,hf⟩;dsimp only;rw[kat_snds rfl Ww];have hsz:(EO (p.toList.map λi=>EX i)).size=vs.length:=by rw[List.size_toArray,List.length_map,Array.length_toList,hp.size]
 have s2:=Heap.SameBut.update h3 a (Obj.mapSeq λ_=>EO (p.toList.map λi=>EX i));obtain⟨c2,vU⟩:∃c2,(h3.update a (Obj.mapSeq λ_=>EO (p.toList.map λi=>EX i))).get? a=some (seqObj "list" (EO (p.toList.map λi=>EX i)) c2):=⟨_,get?_update_seq Ou λ_=>EO (p.toList.map λi=>EX i)⟩
 refine wpAny_bind (pK (s:={s with heap:=h3}) Ou (Ax (listUpdate_at (s:={s with heap:=h3}) Ou rfl ?_ SR (Nat.le_trans (Nb hsz) (by rw[sizeLine_eq];lia)))));rw[hf];simp only[bne_self_eq_false,Bool.false_eq_true,if_false];exact B2 (h p _ c2 hp hs (λb o hb e=>(s2.2 b hb).trans δ) vU)
theorem afa{a}{vs:List Value}(ho:s.heap.get? a=some (JA n))(h2:vs.length<2)
  (h:∀h' c,Kp a s.heap h'->h'.get? a=some (JA c)->P (.done (.ret .none)) {s with heap:=h'}):
  wpAny AR A (kD ⟨[.ref a],[]⟩) P E s:=by
 have s1:=Heap.SameBut.update s.heap a (Obj.mapSeq λ_=>(#[]:Array Value));obtain⟨e1,KP⟩:∃e1,(s.heap.update a (Obj.mapSeq λ_=>(#[]:Array Value))).get? a=some (seqObj "list" #[] e1):=⟨_,get?_update_seq ho λ_=>#[]⟩
 rw[list_sort_plain];refine wpAny_bind (listItems_at ho rfl (Ax (listUpdate_at ho rfl ?_ (by rw[List.size_toArray,sizeLine_eq];lia) (Nat.zero_le _))));refine wpAny_bind (seqEpoch_at KP rfl (Ax (pS (by show vs.length<=_;rw[sizeLine_eq];lia))));generalize hh:(((s.heap.update a (Obj.mapSeq λ_=>(#[]:Array Value))).push {cls:= .type "tuple",data:= .seq vs.toArray 0}).push {cls:= .type "list",data:= .seq #[] 0})=h3;have k3:Kp a s.heap h3:=λb o hb e=>by
  rw[<-hh];exact BL (BL ((s1.2 b hb).trans e))
 have Ou:h3.get? a=some (seqObj "list" #[] e1):=by
  rw[<-hh];exact BL (BL KP)
 show wpAny AR A _ P E {s with heap:=h3};dsimp only;have zT:vs.toArray.size<2:=by rw[List.size_toArray];lia
 rw[A7 zT,A7 zT];refine wpAny_bind avr;dsimp only;have amN:(AE (SortSt.mk' general' (vs.toArray.zip vs.toArray) #[] 7 none)).map (·.2)=vs.toArray:=by
  show(vs.toArray.zip vs.toArray).map (·.2)=vs.toArray;apply Array.toList_inj.mp;rw[Array.toList_map,Array.toList_zip];exact aqS Bj
 have s2:=Ψ h3 a (Obj.mapSeq λ_=>vs.toArray);obtain⟨c2,vU⟩:∃c2,(h3.update a (Obj.mapSeq λ_=>vs.toArray)).get? a=some (JA c2):=⟨_,get?_update_seq Ou λ_=>vs.toArray⟩
 rw[amN];refine wpAny_bind (pK (s:={s with heap:=h3}) Ou (Ax (listUpdate_at (s:={s with heap:=h3}) Ou rfl ?_ SR (by rw[List.size_toArray,sizeLine_eq];lia))));simp only[bne_self_eq_false,Bool.false_eq_true,if_false];exact B2 (h _ c2 (λb o hb e=>(s2.2 b hb).trans δ) vU)
theorem adt{vs:List Value}{lt}(hl:s.heap.IsList l vs.toArray)(Ic:vs.length<10000)(RS:vs.Nodup)(L:Co vs.length lt)
  (hk:2<=vs.length->∀s',(∀b o,s.heap.get? b=some o->s'.heap.get? b=some o)->∀Q':SortKind->Shared->Prop,Q' κ s'->wpAny AR A.in1.in1 (keyKind' vs.toArray) Q' QH s')
  (hc:∀i j,i<vs.length->j<vs.length->∀s',(∀b o,s.heap.get? b=some o->s'.heap.get? b=some o)->∀C:Bool->Shared->Prop,C (lt i j) s'->wpAny AR A.in1.in1 (keyLt' κ (VL i) (VL j)) C (λ_ _=>False) s')
  (h:∀p h' D c,zV vs.length p->Sd lt p vs.length->(∀b o,s.heap.get? b=some o->h'.get? b=some o)->s.heap.objs.size<=D->h'.get? D=some (seqObj "list" (EO (p.toList.map λi=>EX i)) c)->Q (.ref D) {s with heap:=h'}):
  wpAny AR A (call (.builtin "sorted") [.ref l]) Q E s:=by
 refine Calls.call_function_entry kind_sorted plain_sorted entry_sorted (args_sorted1 _) ?_;unfold Builtin.«sorted»;refine wpAny_bind (m:=xc 1 1) (B2 (Ax (collect_list hl (Ax (wpAny_newList ?_ (by rw[sizeLine_eq];lia))) (by rw[sizeLine_eq];lia))));generalize hh:((Hy (seqObj "list" #[] 0)).update s.heap.objs.size (GF (·++vs.toArray)))=h1;have hsz:h1.objs.size=s.heap.objs.size+1:=by rw[<-hh,Heap.size_update,size_push']
 have keep:∀b o,s.heap.get? b=some o->(HJ HF).get? b=some o:=λb o q=>by
  have iO:b<s.heap.objs.size:=Bf q;rw[WT (by rw[hsz];exact Dn (Xp iO)),<-hh,wQ Rz,WT Rz];exact q
 have LC:(HJ HF).get? h1.objs.size=some (JA 0):=Heap.get?_push_size _ rfl;have Mb:∀h',Kp h1.objs.size (HJ HF) h'->∀b o,s.heap.get? b=some o->h'.get? b=some o:=λh' k b o q=>k b o (by have:=Heap.lt_size q;rw[hsz];exact Dn (Xp this)) (keep b o q)
 show wpAny _ _ _ _ _ {s with heap:=HJ HF};refine wpAny_bind (IC (wpAny_call_entry slot_list_sort ⟨_,LC,rfl⟩ entry_list_sort ?_ (args_list_sort _)));by_cases h2:2<=vs.length
 ·refine ajU (s:={s with heap:=HJ HF}) (lt:=lt) LC h2 Ic RS L (λs' k Q' q=>hk h2 s' jB Q' q) (λi j hi hj s' k C q=>hc i j hi hj s' jB C q) λp h' c hp hs k e=>?_
  exact⟨_,rfl,B2 ⟨_,rfl,h p h' _ c hp hs jB (by rw[show({s with heap:=h1}:Shared).heap.objs.size=h1.objs.size from rfl,hsz];exact Nat.le_succ _) e⟩⟩
 ·refine afa (s:={s with heap:=HJ HF}) LC A3 λh' c k e=>?_
  have hp:zV vs.length (EO awS):=by unfold zV;simp
  refine⟨_,rfl,B2 ⟨_,rfl,h _ h' _ c hp uq (Mb _ k) (by rw[show({s with heap:=h1}:Shared).heap.objs.size=h1.objs.size from rfl,hsz];exact Nat.le_succ _) ?_⟩⟩;rw[e]
  congr 2
  match vs,h2 with
  |[],_=>rfl
  |[x],_=>rfl
  |x::y::r,h=>simp at h
end
def kW(p q:Int×Int):Bool:=if p.1=q.1 then decide (p.2<q.2)else decide (p.1<q.1)
theorem adO{p q:Int×Int}(a:kW p q=true)(b:kW q r=true):kW p r=true:=by
 unfold kW at*;split at a<;>split at b<;>split<;>simp_all<;>lia
theorem Ig{p q}(a:kW p q=true):kW q p=false:=by
 unfold kW at*;split at a<;>split<;>simp_all<;>lia
theorem D8{p q}(h:p≠q):kW p q=true∨kW q p=true:=by
 unfold kW;by_cases e:p.1=q.1
 ·have:p.2≠q.2:=λz=>h (Cd e z)
  simp[e];lia
 ·have e':¬q.1=p.1:=λz=>e z.symm
  simp[e,e'];lia
section
variable{prog:Program}{w:World}{A:Around}{E:Value->Shared->Prop}{s:Shared}
def tL(h:Heap)(x:Addr)(p:Int×Int):Prop:=∃o t u n,h.get? x=some o/\o.cls= .type "tuple"/\o.data= .seq #[.int p.1 t, .int p.2 u] n
theorem ags{p q}(hx:tL s.heap x p)(hy:tL s.heap y q)(h:C (kW p q) s):wpAny AR A (keyLt' (LZ true) (.ref x) (.ref y)) C E s:=by
 obtain⟨ox,t,u,n,h1,h2,h3⟩:=hx;obtain⟨oy,t',u',n',g1,g2,g3⟩:=hy;refine kat_lt h1 h3 g1 g3 (Vt ?_);have e0:SeqAt.EqAt A s (.int p.1 t) (.int q.1 t') (xB (.int p.1) (.int q.1)):=yd ⟨t,rfl⟩ ⟨t',rfl⟩ rfl rfl;have e1:SeqAt.EqAt A s (.int p.2 u) (.int q.2 u') (xB (.int p.2) (.int q.2)):=yd ⟨u,rfl⟩ ⟨u',rfl⟩ rfl rfl;refine e0 _ _ _ _ ?_;by_cases a:p.1=q.1
 ·have:xB (.int p.1) (.int q.1)=true:=by simp[xB,a]
  rw[this];refine kat_yes (Vt (e1 _ _ _ _ ?_));by_cases b:p.2=q.2
  ·have:xB (.int p.2) (.int q.2)=true:=by simp[xB,b]
   rw[this];refine kat_yes (kat_nil ?_);have:kW p q=decide (#[Gg p.1 t, .int p.2 u].size<#[Gg q.1 t', .int q.2 u'].size):=by simp[kW,a,b]
   rw[this]at h;exact h
  ·have:xB (.int p.2) (.int q.2)=false:=by simp[xB,b]
   rw[this];refine kat_no (kat_one _ _ (lt_int ?_));have:kW p q=decide (p.2<q.2):=by simp[kW,a]
   rw[this]at h;exact h
 ·have:xB (.int p.1) (.int q.1)=false:=by simp[xB,a]
  rw[this];refine kat_no (oneLt_int ?_);have:kW p q=decide (p.1<q.1):=by simp[kW,a]
  rw[this]at h;exact h
theorem aac:∀{its:List Value},(∀v∈its,∃x p,v= .ref x/\tL h x p)->∃fs,KatTups h its fs/\fs.length=its.length/\∀f∈fs,∃i t,f=Value.int i t
 |[],_=>⟨[], .nil,rfl,λf hf=>by cases hf⟩
 |v::r,hv=>by
  obtain⟨x,p,rfl,o,t,u,n,h1,h2,h3⟩:=hv v (List.mem_cons_self ..);obtain⟨fs,k1,k2,k3⟩:=aac (its:=r) λv QL=>vM v
  refine⟨.int p.1 t::fs, .cons h1 h2 h3 rfl k1,by simp[k2],λf hf=>?_⟩;rcases List.mem_cons.mp hf with rfl|hf
  ·exact⟨_,_,rfl⟩
  ·exact k3 f hf
theorem agw{its:List Value}(ed:0<its.length)(hv:∀v∈its,∃x p,v= .ref x/\tL s.heap x p)(h:Q (LZ true) s):wpAny AR A (keyKind' its.toArray) Q E s:=by
 obtain⟨fs,k1,k2,k3⟩:=aac hv;refine kat_kind (T:= .type "int") k1 A3 (λv hv=>?_) (AN) h;obtain⟨i,t,rfl⟩:=k3 v hv;exact .now
end
theorem adS{l:List Nat}{f:Nat->V}{g:Nat->Value}(h:∀i∈l,RelV (f i) (g i)):Vals (l.map f) (l.map g):=by
 induction l with
 |nil=>exact .nil
 |cons i r ih=>exact .cons (h i (List.mem_cons_self ..)) (ih λj hj=>h j (Ep hj))
end L2
namespace QF
open PySem L2 PySem.Spec PyProof.Rows PySem.W PySem.Calls
inductive Ih(K:Frag)(vs:List V)(H:Hp)(Q:VK):Prop
 |mk (l) (xs) (ps) (_:vs=[.ref l]) (_:gF K H l xs) (_:gw H xs ps) (_:ps.Nodup) (_:ps.length<10000) (_:∀D ys qs,H D=none->gw H ys qs->qs.Perm ps->qs.Pairwise (λp q=>kW p q=true)->Q (.ref D) (N3 D)):Ih K vs H Q
theorem anK{X} (K) (hK:X.K=K:=by rfl):jF X (.builtin "sorted") (Ih K):=by
 subst hK;intro pins s σ H vs us Q I r h;obtain⟨l,xs,ps,rfl,hq,PS,nd,Ic,q⟩:=h;obtain⟨u,rfl,rx⟩:=vals1 r;cases rx;obtain⟨its,r',pl,hz⟩:=DP hq;have hlen:=r'.length;have rg:=PS.1;have key:∀i,i<its.length->∃t,xs[i]?=some (.ref t)/\its[i]?=some (.ref t)/\H t=some (.tup (kM (FH i)))/\tL s.heap t (FH i):=λi hi=>by
  have hp:ps[i]?=some (FH i):=by simp[show i<ps.length by lia]
  obtain⟨t,h1,h2⟩:=PS.2 i _ hp;obtain⟨v,h3,h4⟩:=r'.get h1;cases h4;refine⟨t,h1,h3,h2,?_⟩;obtain⟨jts,r2,⟨o,e1,e2,n,e3⟩,_⟩:=Y9 (xs:=kM (FH i)) (.of h2);cases r2 with
  |cons a b=>
   cases b with
   |cons c d=>
    cases d;obtain⟨ta,rfl⟩:=a;obtain⟨tc,rfl⟩:=c;exact⟨o,ta,tc,n,e1,e2,e3⟩
 have Mb:∀{h':Heap},(∀b o,s.heap.get? b=some o->h'.get? b=some o)->∀{x p},tL s.heap x p->tL h' x p:=λk _ _ ⟨o,t,u,n,a,b⟩=>⟨o,t,u,n,k _ _ a,b⟩
 have L:Co its.length λi j=>kW (FH i) (FH j):=by
  refine⟨λi j k _ _ _ a b=>adO a b,λi j _ _ a=>Ig a,λi j hi hj ed=>D8 λe=>ed ?_⟩;have e:ps[i]?=ps[j]?:=by
   rw[Bu A3,Bu A3];simpa[show i<ps.length by lia,show j<ps.length by lia]using e
  exact(Jf A3).mp e
 have RS:its.Nodup:=by
  refine List.pairwise_iff_getElem.mpr λi j hi hj vV e=>?_
  obtain⟨t1,_,a2,a3,_⟩:=key i hi;obtain⟨t2,_,b2,b3,_⟩:=key j hj;rw[Bu hi]at a2;rw[Bu hj,<-e,a2]at b2;cases b2;rw[a3]at b3;have h1:ps[i]?=some (FH i):=by simp[show i<ps.length by lia]
  have h2:ps[j]?=some (FH j):=by simp[show j<ps.length by lia]
  have e9:ps.getD i (0,0)=ps.getD j (0,0):=by
   have:=Qj (Aw b3);simp only[kM,List.cons.injEq,V.int.injEq,and_true]at this;exact Cd this.1 this.2
  have:=(Jf A3).mp (RD (by rw[e9];exact h2.symm))
  lia
 refine adt (κ:=LZ true) pl.isList A3 RS L (λh2 s' k Q' hq=>?_) (λi j hi hj s' k C hC=>?_) λp h' D c hp hs k hD e=>?_
 ·refine agw A3 (λv hv=>?_) hq;obtain⟨i,hi,rfl⟩:=Gq hv;obtain⟨t,_,h3,_,h5⟩:=key i hi;exact⟨t,_,by rw[Bu hi]at h3;exact Aw h3,Mb k h5⟩
 ·obtain⟨t,_,h3,_,h5⟩:=key i hi;obtain⟨t',_,g3,_,g5⟩:=key j hj;have e1:its.getD i .none= .ref t:=by simp[h3]
  have e2:its.getD j .none= .ref t':=by simp[g3]
  rw[e1,e2];exact ags (Mb k h5) (Mb k g5) hC
 ·have mem:∀i∈p.toList,i<its.length:=λi hi=>by
   have:=hp.mem_iff.mp hi;simpa using this
  have rel:Vals (p.toList.map λi=>IX i) (p.toList.map λi=>its.getD i Value.none):=adS λi hi=>by
   obtain⟨t,h1,h3,_⟩:=key i (mem i hi);have e1:xs.getD i .de= .ref t:=by simp[h1]
   have e2:its.getD i .none= .ref t:=by simp[h3]
   rw[e1,e2];rfl
  have hsz:(p.toList.map λi=>xs.getD i V.de).length=its.length:=by rw[List.length_map,Array.length_toList,hp.size]
  have Ov:(p.toList.map λi=>FH i).length=its.length:=by rw[List.length_map,Array.length_toList,hp.size]
  refine⟨.ref D,_,ε k hD (show dA X.prog X.w _ h' _ (.lst _)from⟨by rw[hsz,<-hlen];exact hz,_,c,rel,e⟩),rfl,q D _ (p.toList.map λi=>FH i) (HA hD) ⟨by rw[hsz,Ov],λi f hf=>?_⟩ ?_ ?_⟩
  ·rw[List.getElem?_map]at hf⊢;cases ei:p.toList[i]? with
   |none=>rw[ei]at hf;cases hf
   |some j=>
    rw[ei]at hf;have hf:ps.getD j (0,0)=f:=Aw hf;obtain⟨t,h1,h3,h4,_⟩:=key j (mem j dG);refine⟨t,?_,by rw[<-hf];exact h4⟩;show some (IX j)=_;simp[h1]
  ·have h1:=hp.map (λi=>FH i);refine h1.trans ?_;have:(B5 its.length).map (λi=>FH i)=ps:=by
    apply List.ext_getElem?;intro i;rw[List.getElem?_map];by_cases hi:i<its.length
    ·rw[apJ hi];simp[show i<ps.length by lia]
    ·rw[FI (by simp;lia),FI A3];rfl
   rw[this]
  ·rw[List.pairwise_iff_getElem];intro i j hi hj vV;have BB:i<its.length:=by rw[Ov]at hi;exact hi
   have F9:j<its.length:=by rw[Ov]at hj;exact hj
   have:=hs i j vV F9;have F_:=hp.size;simp only[List.getElem_map];have e1:gd p i=p.toList[i]'(by simp;lia):=by simp[gd,show i<p.size by lia]
   have e2:gd p j=p.toList[j]'(by simp;lia):=by simp[gd,show j<p.size by lia]
   rw[e1,e2]at this;exact this
end QF
namespace L2
open PySem PySem.Spec PyProof.Rows PySem.W PySem.Calls
open AutoSeq1 (wpAny_loadPart')
theorem RT{t:Tok}:SeqAt.EqAt A s (.int i t) (.int j u) (decide (i=j)):=by
 have:=yd (A:=A) (s:=s) (y:= .int i) (x:= .int j) ⟨t,rfl⟩ ⟨u,rfl⟩ rfl rfl;simpa[xB,Bool.beq_eq_decide_eq]using this
theorem RU{t:Tok}(h:Q (.bool (decide (i<j))) s):wpAny AR A (richCompare .Lt (.int i t) (.int j u)) Q E s:=lt_int h
theorem awg(l b:_)(p q:_)(t u t' u':_)(n n2:_)(dd F6:_)(sl yg:_):
  Meets (Builtin.«tuple.__lt__» ⟨[.ref l, .ref b],[]⟩) (λA R s=>s.heap.get? l=some {cls:= .type "tuple",dict:=dd,data:= .seq #[.int p.1 t, .int p.2 u] n,slots:=sl}/\s.heap.get? b=some {cls:= .type "tuple",dict:=F6,data:= .seq #[.int q.1 t', .int q.2 u'] n2,slots:=yg}/\
    R (.ok (.ret (.bool rG))) s):=
 .of_wp λprog w A R s h=>by
  obtain⟨hp,g,d,tk,os⟩:=s;obtain⟨hl,hb,h⟩:=h;have f2:=AutoSeq1.sub_tuple_tuple
  wp_walk using wpAny_loadPart' hl,wpAny_loadPart' hb
  refine(show wpAny AR A.in1 (eqBool (.int p.1 t) (.int q.1 t')) _ _ _ from RT _ _ _ _ ?_);by_cases a:p.1=q.1
  ·rw[EK a]
   wp_walk
   refine(show wpAny AR A.in1 (eqBool (.int p.2 u) (.int q.2 u')) _ _ _ from RT _ _ _ _ ?_);by_cases c:p.2=q.2
   ·rw[EK c]
    wp_walk
    have e:kW p q=false:=by simp[kW,a,c]
    rw[e]at h;exact⟨_,rfl,h⟩
   ·rw[EI c];have e:kW p q=decide (p.2<q.2):=by simp[kW,a]
    rw[e]at h
    wp_walk using RU
    exact⟨_,rfl,h⟩
  ·rw[EI a];have e:kW p q=decide (p.1<q.1):=by simp[kW,a]
   rw[e]at h
   wp_walk using RU
   exact⟨_,rfl,h⟩
theorem asl{A}{s}{p q}(hu:A.units<cLine)(hx:tL s.heap x p)(hy:tL s.heap y q)(h:Q (.bool rG) s):wpAny AR A (compareOp .Lt (.ref x) (.ref y)) Q E s:=by
 obtain⟨⟨c,dd,da,sl⟩,t,u,n,h1,h2,h3⟩:=hx;obtain⟨⟨c',LN,da',U_⟩,t',u',n',g1,g2,g3⟩:=hy;simp only at h2 h3 g2 g3;subst h2 h3 g2 g3;exact richCompare_meets_room (op:= .Lt) ⟨_,h1,rfl⟩ ⟨_,g1,rfl⟩ F.slot_tuple_lt F.entry_tuple_lt (F.args_tuple_lt_2 _ _) (awg x y p q t u t' u' n n' dd LN sl U_) ⟨h1,g1,show Value.bool (kW p q)≠Value.notImplemented/\Q (.bool rG) s from⟨(λx=>nomatch x),h⟩⟩ hu
abbrev Kw:=Int×(Int×Int)
def BE(a b:Kw):Bool:=if a.1=b.1 then kW a.2 b.2 else decide (a.1<b.1)
theorem avf{p q:Kw}(a:BE p q=true)(b:BE q r=true):BE p r=true:=by
 unfold BE at*;by_cases h1:p.1=q.1<;>by_cases h2:q.1=r.1
 ·rw[A7 h1]at a;rw[A7 h2]at b;rw[A7 (RD h2)];exact adO a b
 ·rw[A6 h2]at b;rw[A6 (by rw[h1];exact h2),h1];exact b
 ·rw[A6 h1]at a;rw[A6 (by rw[<-h2];exact h1),<-h2];exact a
 ·rw[A6 h1]at a;rw[A6 h2]at b;have a:=Ie a;have b:=Ie b;rw[A6 A3];exact EK A3
theorem ava{p q}(a:BE p q=true):BE q p=false:=by
 unfold BE at*;by_cases h1:p.1=q.1
 ·rw[A7 h1]at a;rw[A7 h1.symm];exact Ig a
 ·rw[A6 h1]at a;rw[A6 xA];have a:=Ie a;exact EI A3
theorem ani{p q}(h:p≠q):BE p q=true∨BE q p=true:=by
 unfold BE;by_cases h1:p.1=q.1
 ·rw[A7 h1,A7 h1.symm];exact D8 λz=>h (Cd h1 z)
 ·rw[A6 h1,A6 xA];rcases Int.lt_or_lt_of_ne h1 with z|z
  ·exact .inl Vf
  ·exact .inr Vf
section
variable{prog:Program}{w:World}{A:Around}{E:Value->Shared->Prop}{s:Shared}
def xR(h:Heap)(x:Addr)(k:Kw):Prop:=∃o t y c,h.get? x=some o/\o.cls= .type "tuple"/\o.data= .seq #[.int k.1 t, .ref y] c/\tL h y k.2
theorem aeM{p q}(hu:A.units+1<cLine)(hx:tL s.heap x p)(hy:tL s.heap y q):SeqAt.EqAt A s (.ref x) (.ref y) (decide (p=q)):=by
 obtain⟨o,t,u,n,h1,h2,h3⟩:=hx;obtain⟨o',t',u',n',g1,g2,g3⟩:=hy;by_cases e:x=y
 ·subst e;rw[h1]at g1;cases g1;rw[h3]at g3;injection g3 with g3 _;have g3:=Eu Array.toList g3;simp at g3;have:p=q:=Cd g3.1.1 g3.2.1;rw[EK this];exact SeqAt.EqAt.same _
 ·have:=SeqAt.EqAt.of_refs e (SeqAt.RcAt.tuples (A:=A) (s:=s) (items:=#[.int p.1 t, .int p.2 u]) (items2:=#[.int q.1 t', .int q.2 u']) (e:=λj=>if j=0 then decide (p.1=q.1)else decide (p.2=q.2)) ⟨o,h1,h2,n,h3⟩ ⟨o',g1,g2,n',g3⟩ A3 λj h1 h2=>by
   have:j=0∨j=1:=by simp at h1;lia
   rcases this with rfl|rfl
   ·exact RT
   ·exact RT)
  have e2:((B5 (min #[Gg p.1 t, .int p.2 u].size #[Gg q.1 t', .int q.2 u'].size)).all (λj=>if j=0 then decide (p.1=q.1)else decide (p.2=q.2))&&#[Gg p.1 t, .int p.2 u].size==#[Gg q.1 t', .int q.2 u'].size)=decide (p=q):=by
   simp[List.range_succ];by_cases a:p.1=q.1<;>by_cases b:p.2=q.2<;>simp[Prod.ext_iff,a,b]
  rw[e2]at this;exact this
theorem anB{p q}(hu:A.units+1<cLine)(hx:xR s.heap x p)(hy:xR s.heap y q)(h:C (BE p q) s):wpAny AR A (keyLt' (LZ true) (.ref x) (.ref y)) C E s:=by
 obtain⟨ox,t,z,n,h1,h2,h3,h4⟩:=hx;obtain⟨oy,t',z',n',g1,g2,g3,g4⟩:=hy;refine kat_lt h1 h3 g1 g3 (Vt (RT _ _ _ _ ?_));by_cases a:p.1=q.1
 ·rw[EK a];refine kat_yes (Vt (aeM hu h4 g4 _ _ _ _ ?_));have e:BE p q=kW p.2 q.2:=A7 a;by_cases b:p.2=q.2
  ·rw[EK b];refine kat_yes (kat_nil ?_);have:BE p q=decide (#[Gg p.1 t, .ref z].size<#[Gg q.1 t', .ref z'].size):=by rw[e,b];simp[kW]
   rw[this]at h;exact h
  ·rw[EI b];rw[e]at h;exact kat_no (kat_one _ _ (asl A3 h4 g4 h))
 ·rw[EI a];have e:BE p q=decide (p.1<q.1):=A6 a;rw[e]at h;exact kat_no (oneLt_int h)
end
theorem aij{X}
  (F:aZ X.prog X.w X.K X.mg X.base GQ cm k f fd ps sp) (hr:e_ cm k A') (hf:A'.frames=X.A.frames) (hb:Binds X.K fd ps []) (I:Inv X pins σ H s) (r:Vals vs us) (h:sp vs H Q E0):
  wpAny Ak A' (call (.ref f) us) (DR Q) E s:=by
 have hl:(us++[]).length=ps.length:=by rw[List.append_nil,<-r.length];exact si h
 have Pt:=hb s us I.rj hl;rw[List.append_nil]at Pt;refine wpAny_call (codeAny_mono (F.run A' X.stack s H ⟨us,[]⟩ us vs Q E0 hr {I.Nd with frames:=by rw[hf];exact I.ok.frames} Pt r h) λr s' hq=>?_);cases r with
 |error e=>obtain⟨_,_,_,_,_,_,_,_,_,_,_,_,_,h⟩:=hq;exact h.elim
 |ok fl=>
  cases fl with
  |ret u=>exact I.after hq
  |next=>exact E2 hq
  |brk=>exact E2 hq
  |cont=>exact E2 hq
end L2
namespace QF
open PySem L2 PySem.Spec PyProof.Rows PySem.W PySem.Calls
def KQ(H1:Hp)(w:Kw):VK:=λy H2=>av H1 H2/\∃k t,y= .ref k/\H2 k=some (.tup [.int w.1, .ref t])/\H2 t=some (.tup [.int w.2.1, .int w.2.2])
def kl(ws:List Kw)(i j:Nat):Bool:=BE (Fi i) (Fi j)
def Ks(H:Hp)(ws:List Kw)(as:List Addr):Prop:=∀j k,as[j]?=some k->∃t,H k=some (.tup [.int (Fi j).1, .ref t])/\H t=some (.tup [.int (Fi j).2.1, .int (Fi j).2.2])
theorem Ks.key{ws}(I:Inv X pins σ H s)(h:Ks H ws as)(e:as[j]?=some k):xR s.heap k (Fi j):=by
 obtain⟨t,h1,h2⟩:=h j k e;obtain⟨its,r,⟨o,e1,e2,n,e3⟩,_⟩:=Y9 (xs:=[.int (Fi j).1, .ref t]) (.of h1);obtain⟨its',r',⟨o',g1,g2,n',g3⟩,_⟩:=Y9 (xs:=[.int (Fi j).2.1, .int (Fi j).2.2]) (.of h2);cases r with
 |cons a b=>cases b with
  |cons c d=>
   cases d;obtain⟨ta,rfl⟩:=a;cases c;cases r' with
   |cons a' b'=>cases b' with
    |cons c' d'=>
     cases d';obtain⟨ta',rfl⟩:=a';obtain⟨tc',rfl⟩:=c';exact⟨o,ta,t,n,e1,e2,e3,o',ta',tc',n',g1,g2,g3⟩
theorem AO:∀{its:List Value},(∀v∈its,∃x p,v= .ref x/\xR h x p)->∃fs,KatTups h its fs/\fs.length=its.length/\∀f∈fs,∃i t,f=Value.int i t
 |[],_=>⟨[], .nil,rfl,λf hf=>by cases hf⟩
 |v::r,hv=>by
  obtain⟨x,p,rfl,o,t,u,n,h1,h2,h3,_⟩:=hv v (List.mem_cons_self ..);obtain⟨fs,k1,k2,k3⟩:=AO (its:=r) λv QL=>vM v
  refine⟨.int p.1 t::fs, .cons h1 h2 h3 rfl k1,by simp[k2],λf hf=>?_⟩;rcases List.mem_cons.mp hf with rfl|hf
  ·exact⟨_,_,rfl⟩
  ·exact k3 f hf
theorem alR{s}{its:List Value}(ed:0<its.length)(hv:∀v∈its,∃x p,v= .ref x/\xR s.heap x p)(h:Q (LZ true) s):wpAny AR A (keyKind' its.toArray) Q E s:=by
 obtain⟨fs,k1,k2,k3⟩:=AO hv;refine kat_kind (T:= .type "int") k1 A3 (λv hv=>?_) (AN) h;obtain⟨i,t,rfl⟩:=k3 v hv;exact .now
section
variable{X:Cx}{cm:Bool}{k:Nat}{f:Addr}{fd:FuncData}{ps:List Str}{sp:Sp}{A':Around}{pins:List (Addr×Obj)}{σ:L2.St}{H:Hp}{s:Shared}{E:Value->Shared->Prop}{a kS:Addr}{vs:List Value}{xs:List V}{ws:List Kw}{e1:Nat}{P:PySem.Fin->Shared->Prop}
theorem afI(hu:A'.units+1<cLine)(I:Inv X pins σ H s){as}(hk:s.heap.get? kS=some (Zx kA e))(ha:s.heap.get? a=some (seqObj "list" #[] e1))(fk:i4 X pins H kS)(fa:i4 X pins H a)(ed:kS≠a)
  (ek:kA.toList=as.map Value.ref) (el:as.length=vs.length) (K:Ks H ws as) (r:Vals xs vs) (hlen:ws.length=vs.length) (nd:ws.Nodup) (Ic:vs.length<10000)
  (h:∀p s',zV vs.length p->Sd Mg p vs.length->Inv X pins σ (Hf (.lst (p.toList.map λi=>IX i))) s'->P (.done (.ret .none)) s'):
  wpAny Ak A' (ksk_end a false vs.toArray e1 (.ref kS) kA) P E s:=by
 have ekA:kA=(EH Value.ref).toArray:=by apply Array.toList_inj.mp;simpa using ek
 subst ekA;have hl:(EH Value.ref).length=vs.length:=by rw[List.length_map];exact el
 have key:∀i,i<vs.length->∃x,(EH Value.ref).getD i Value.none= .ref x/\xR s.heap x (Fi i):=λi hi=>by
  have hx:as[i]?=some as[i]:=Bu A3;exact⟨as[i],by simp[show i<as.length by lia],K.key I hx⟩
 have L:Co vs.length (kl ws):=by
  refine⟨λi j k _ _ _ a b=>avf a b,λi j _ _ a=>ava a,λi j hi hj ed=>ani λe=>ed ?_⟩;have e:ws[i]?=ws[j]?:=by
   rw[Bu A3,Bu A3];simpa[show i<ws.length by lia,show j<ws.length by lia]using e
  exact(Jf A3).mp e
 have tail:∀(st:SortSt)(p:Array Nat),zV vs.length p->Sd Mg p vs.length->(AE st).map (·.2)=List.toArray (p.toList.map λi=>EX i)->failedOf st=none->wpAny Ak A' (ksk_tail a false e1 (.ref kS) st) P E s:=λst p hp hs hm hf=>by
  have hsz:(EO (p.toList.map λi=>EX i)).size=vs.length:=by rw[List.size_toArray,List.length_map,Array.length_toList,hp.size]
  have s1:=Heap.SameBut.update s.heap kS (Obj.mapSeq λ_=>(#[]:Array Value));have Ct:(s.heap.update kS (Obj.mapSeq λ_=>(#[]:Array Value))).get? a=some (seqObj "list" #[] e1):=(s1.2 a (Ay ed)).trans ha;have s2:=Heap.SameBut.update (s.heap.update kS (Obj.mapSeq λ_=>(#[]:Array Value))) a (Obj.mapSeq λ_=>EO (p.toList.map λi=>EX i));obtain⟨c2,vU⟩:∃c2,((s.heap.update kS (Obj.mapSeq λ_=>(#[]:Array Value))).update a (Obj.mapSeq λ_=>EO (p.toList.map λi=>EX i))).get? a=some (seqObj "list" (EO (p.toList.map λi=>EX i)) c2):=⟨_,get?_update_seq Ct λ_=>EO (p.toList.map λi=>EX i)⟩
  unfold ksk_tail
  try dsimp only
  simp only[Bool.false_eq_true,if_false];rw[hm];refine wpAny_bind (listUpdate_at hk rfl (Ax Z9) (by rw[List.size_toArray,hl,sizeLine_eq];lia) (Nat.zero_le _));refine wpAny_bind (pK (s:={s with heap:=s.heap.update kS (Obj.mapSeq λ_=>(#[]:Array Value))}) Ct (Ax (listUpdate_at (s:={s with heap:=s.heap.update kS (Obj.mapSeq λ_=>(#[]:Array Value))}) Ct rfl ?_ SR (Nat.le_trans (Nb hsz) (by rw[sizeLine_eq];lia)))));rw[hf];simp only[bne_self_eq_false,Bool.false_eq_true,if_false];have hr:=r.length;have mem:∀i∈p.toList,i<vs.length:=λi hi=>by
   have:=hp.mem_iff.mp hi;simpa using this
  have rel:Vals (p.toList.map λi=>IX i) (p.toList.map λi=>EX i):=adS λi hi=>by
   have hi:=mem i hi;obtain⟨v,h1,h2⟩:=r.get (i:=i) (x:=xs[i]) (by simp[show i<xs.length by lia]);have e1:xs.getD i .de=xs[i]:=by simp[show i<xs.length by lia]
   have e2:vs.getD i .none=v:=by simp[h1]
   rw[e1,e2];exact h2
  refine wpAny_pure (h p _ hp hs (I.DO (t':=s.toks) (fp:=[kS,a]) (λb hb=>?_) fa (λb o hb e=>?_) ⟨by rw[List.length_map,Array.length_toList,hp.size,sizeLine_eq];lia,_,c2,rel,vU⟩))
  ·simp only[List.mem_cons,List.mem_singleton,List.not_mem_nil,or_false]at hb;rcases hb with rfl|rfl
   ·exact fk
   ·exact fa
  ·simp only[List.mem_cons,List.not_mem_nil,or_false,not_or]at hb;exact(s2.2 b hb.2).trans ((s1.2 b hb.1).trans e)
 unfold ksk_end
 try dsimp only
 simp only[Bool.false_eq_true,if_false];by_cases h2:2<=vs.length
 ·have zT:¬vs.toArray.size<2:=by rw[List.size_toArray];lia
  rw[A6 zT,A6 zT];refine wpAny_bind (wpAny_mono (alR (Q:=λUk s'=>Uk=tuples' true/\s'=s) (E:=E) (its:=EH Value.ref) (by lia) (λv hv=>?_) ⟨rfl,rfl⟩) ?_ λ_ _ x=>x)
  ·obtain⟨i,hi,rfl⟩:=List.mem_iff_getElem.mp hv;obtain⟨x,h3,h5⟩:=key i A3;exact⟨x,_,by rw[<-h3];simp[show i<as.length by simpa using hi],h5⟩
  rintro Uk s0 ⟨hκ,hs0⟩;rw[hκ,hs0];have RV:(EH Value.ref).Nodup:=by
   refine List.pairwise_iff_getElem.mpr λi j hi hj vV e=>?_
   have BB:i<as.length:=by simpa using hi
   have F9:j<as.length:=by simpa using hj
   have e:as[i]=as[j]:=by simpa using e
   obtain⟨t1,a1,a2⟩:=K i as[i] (Bu BB);obtain⟨t2,b1,b2⟩:=K j as[j] (Bu F9);rw[<-e,a1]at b1;have h1:=Qj (Aw b1);simp only[List.cons.injEq,V.int.injEq,V.ref.injEq,and_true]at h1;rw[<-h1.2,a2]at b2;have h2:=Qj (Aw b2);simp only[List.cons.injEq,V.int.injEq,and_true]at h2;have e9:ws.getD i (0,(0,0))=ws.getD j (0,(0,0)):=Cd h1.1 (Cd h2.1 h2.2);have g1:ws[i]?=some (Fi i):=by simp[show i<ws.length by lia]
   have g2:ws[j]?=some (Fi j):=by simp[show j<ws.length by lia]
   have:=(Jf A3).mp (g1.trans (by rw[e9];exact g2.symm))
   lia
  refine wpAny_bind (wpAny_mono (abq (lt:=kl ws) hl A3 L RV λi j hi hj C hC=>?_) ?_ λ_ _ e=>e)
  ·obtain⟨x,h3,h5⟩:=key i hi;obtain⟨y,g3,g5⟩:=key j hj;rw[h3,g3];exact anB hu h5 g5 hC
  rintro⟨⟨⟩,aW⟩ s' ⟨p,aic,hp,hs,Ww,hf⟩;rw[aic];exact tail aW p hp hs (kat_snds hl Ww) hf
 ·have zT:vs.toArray.size<2:=by rw[List.size_toArray];lia
  rw[A7 zT,A7 zT];refine wpAny_bind avr;have hp:zV vs.length (EO awS):=by unfold zV;simp
  refine tail _ _ hp uq ?_ rfl;show((EH Value.ref).toArray.zip vs.toArray).map (·.2)=_;apply Array.toList_inj.mp;rw[Array.toList_map,Array.toList_zip];refine(aqS (by simp;lia)).trans ?_
  match vs,h2 with
  |[],_=>rfl
  |[x],_=>rfl
  |x::y::r,h=>simp at h
theorem ajQ(F:aZ X.prog X.w X.K X.mg X.base GQ cm k f fd ps sp)(hr:e_ cm k A')(hf:A'.frames=X.A.frames)(hb:Binds X.K fd ps [])(hu:A'.units+1<cLine)(I:Inv X pins σ H s)(hk:s.heap.get? kS=some (seqObj "list" #[] 0))(ha:s.heap.get? a=some (seqObj "list" #[] e1))
  (fk:i4 X pins H kS) (fa:i4 X pins H a) (ed:kS≠a) (r:Vals xs vs) (hlen:ws.length=vs.length) (nd:ws.Nodup) (Ic:vs.length<10000)
  (p5:∀i v H1,xs[i]?=some v->av H H1->sp [v] H1 Vc E0)
  (h:∀p H' s',zV vs.length p->Sd Mg p vs.length->av H H'->H' a=none->Inv X pins σ (upd H' a (.lst (p.toList.map λi=>IX i))) s'->P (.done (.ret .none)) s'):
  wpAny Ak A' (ksk_rest a (.ref f) false vs.toArray e1 (.ref kS)) P E s:=by
 have L':=r.length;unfold ksk_rest;refine wpAny_bind (Y8 ?_);first
  |rw[List.forIn_toArray]
  |(rw[<-Array.forIn_toList];simp only[List.toList_toArray])
 refine wpAny_bind (ksk_fold (λi s'=>∃(H':Hp)(as:List Addr)(e:Nat),Inv X pins σ H' s'/\av H H'/\s'.heap.get? kS=some (Zx (EH Value.ref).toArray e)/\s'.heap.get? a=some (seqObj "list" #[] e1)/\i4 X pins H' kS/\i4 X pins H' a/\as.length=i/\Ks H' ws as) vs 0 s
  ⟨H,[],0,I,λ_ _ z=>z,hk,ha,fk,fa,rfl,λj k e=>by simp at e⟩ ?_ ?_)
 ·rintro j x s' hx ⟨H',as,e,I',sm,Hw,RW,Ul,RX,el,K⟩;simp only[Nat.zero_add]at el⊢;have hj:j<vs.length:=(AM hx).1;obtain⟨u,Yg,Um⟩:=r.get (i:=j) (x:=xs[j]) (by simp[show j<xs.length by lia]);rw[hx]at Yg;cases Yg;have Ip:=I'.pinned (fp:=[kS,a]) (λb hb=>by
   simp only[List.mem_cons,List.not_mem_nil,or_false]at hb;rcases hb with rfl|rfl
   ·exact Ul
   ·exact RX) (λb hb=>by
   simp only[List.mem_cons,List.not_mem_nil,or_false]at hb;rcases hb with rfl|rfl
   ·exact⟨_,Hw,λv z=>nomatch z⟩
   ·exact⟨_,RW,λv z=>nomatch z⟩)
  refine wpAny_bind (Zw (wpAny_mono (aij F hr hf hb Ip (.cons Um .nil) (p5 j xs[j] H' (by simp[show j<xs.length by lia]) sm)) (λv zU he=>?_) λ_ _ z=>z));obtain⟨y,H2,I2,ry,WA,kk,t,rfl,k1,k2⟩:=he;cases ry;dsimp only;have pk:=I2.pin (kS,_) (Cn (Cn (apC Hw)));have pa:=I2.pin (a,_) (Cn (Cn (apC RW)));have I3:=I2.mJ;have s1:=Ψ zU.heap kS (GF (·.push (.ref kk)));obtain⟨c2,vU⟩:∃c2,(zU.heap.update kS (GF (·.push (.ref kk)))).get? kS=some (Zx ((EH Value.ref).toArray.push (.ref kk)) c2):=⟨_,get?_update_seq pk.1 (·.push (.ref kk))⟩
  refine wpAny_bind (listUpdate_at pk.1 rfl ?_ (by simp;rw[sizeLine_eq];lia) (by simp;rw[sizeLine_eq];lia));have PF:i4 X pins H2 kS:=⟨pk.2.1,Ul.2⟩
  have fa2:i4 X pins H2 a:=⟨pa.2.1,RX.2⟩
  refine wpAny_pure ⟨rfl,H2,as++[kk],c2,I3.turned (t':=zU.toks) (it:=kS) (λb o hb e=>(s1.2 b hb).trans e) PF.1 PF.2.1 PF.2.2.2.1 PF.2.2.2.2.1 PF.2.2.2.2.2,λb o z=>WA b o (sm b o z),?_,(s1.2 a (Ay ed)).trans pa.1,PF,fa2,by simp[el],λi k ei=>?_⟩
  ·show(zU.heap.update kS (GF (·.push (.ref kk)))).get? kS=_;rw[vU]
   congr 2
   simp
  ·by_cases hi:i<as.length
   ·rw[Bi hi]at ei;obtain⟨t',g1,g2⟩:=K i k ei;exact⟨t',WA _ _ g1,WA _ _ g2⟩
   ·rw[Br A3]at ei;have hi0:i-as.length=0:=by
     have:=(AM ei).1;simp at this
     lia
    rw[hi0]at ei;have:kk=k:=by simpa using ei
    subst this;have:i=j:=by lia
    subst this;exact⟨t,k1,k2⟩
 ·rintro s' ⟨H',as,e,I',sm,Hw,RW,Ul,RX,el,K⟩;refine wpAny_bind (listItems_at Hw rfl ?_);exact afI hu I' Hw RW Ul RX ed A9 (by lia) K r hlen nd Ic λp s2 hp hs I2=>h p H' s2 hp hs sm RX.1 I2
theorem ago(F:aZ X.prog X.w X.K X.mg X.base GQ cm k f fd ps sp)(hr:e_ cm k A')(hf:A'.frames=X.A.frames)(hb:Binds X.K fd ps [])(hu:A'.units+1<cLine)(I:Inv X pins σ H s)(ho:s.heap.get? a=some (JA n))
  (fa:i4 X pins H a) (r:Vals xs vs) (hlen:ws.length=vs.length) (nd:ws.Nodup) (Ic:vs.length<10000)
  (p5:∀i v H1,xs[i]?=some v->av H H1->sp [v] H1 Vc E0)
  (h:∀p H' s',zV vs.length p->Sd Mg p vs.length->av H H'->H' a=none->Inv X pins σ (upd H' a (.lst (p.toList.map λi=>IX i))) s'->P (.done (.ret .none)) s'):
  wpAny Ak A' (ksk_tree a (.ref f) false) P E s:=by
 have s1:=Heap.SameBut.update s.heap a (Obj.mapSeq λ_=>(#[]:Array Value));obtain⟨e1,KP⟩:∃e1,(s.heap.update a (Obj.mapSeq λ_=>(#[]:Array Value))).get? a=some (seqObj "list" #[] e1):=⟨_,get?_update_seq ho λ_=>#[]⟩
 have I1:Inv X pins σ H {s with heap:=s.heap.update a (Obj.mapSeq λ_=>(#[]:Array Value))}:=I.turned (t':=s.toks) (it:=a) (λb o hb e=>(s1.2 b hb).trans e) fa.1 fa.2.1 fa.2.2.2.1 fa.2.2.2.2.1 fa.2.2.2.2.2;unfold ksk_tree;refine wpAny_bind (listItems_at ho rfl (Ax (listUpdate_at ho rfl ?_ (by rw[List.size_toArray,sizeLine_eq];lia) (Nat.zero_le _))));refine wpAny_bind (seqEpoch_at KP rfl (Ax (pS (by show vs.length<=_;rw[sizeLine_eq];lia))));have I2:Inv X pins σ H {s with heap:=(s.heap.update a (Obj.mapSeq λ_=>(#[]:Array Value))).push (rq 0)}:=I1.kept (t':=s.toks) λb o e=>BL e
 have I3:Inv X pins σ H {s with heap:=((s.heap.update a (Obj.mapSeq λ_=>(#[]:Array Value))).push (rq 0)).push (seqObj "list" #[] 0)}:=I2.kept (t':=s.toks) λb o e=>BL e
 have fk:=ala Bj;have xI:=Heap.get?_push_of_some (rq 0) KP;exact ajQ F hr hf hb hu I3 vA (BL xI) fk fa (kJ (Bf xI)) r hlen nd Ic p5 h
theorem alZ(F:aZ X.prog X.w X.K X.mg X.base GQ cm k f fd ps sp)(hr:e_ cm (k+1) X.A)(hb:Binds X.K fd ps [])(I:Inv X pins σ H s)(hq:gF X.K H l xs)(hlen:ws.length=xs.length)(nd:ws.Nodup)(Ic:xs.length<10000)
  (p5:∀i v H1,xs[i]?=some v->av H H1->sp [v] H1 Vc E0)
  (h:∀p H' D,zV xs.length p->Sd Mg p xs.length->av H H'->H D=none->H' D=none->Q (.ref D) (upd H' D (.lst (p.toList.map λi=>IX i)))):
  wpAny Ak X.A (call (.builtin "sorted") [.ref l] [(Str.ofString "key", .ref f)]) (DR Q) E s:=by
 obtain⟨vs,r,pl,hz⟩:=DP hq;have L':=r.length;refine call_function_entry_kw kind_sorted plain_sorted entry_sorted (ksk_s1 _ _) ?_;unfold Builtin.«sorted»;refine wpAny_bind (m:=xc 1 1) (B2 (Ax (collect_list pl.isList (Ax (wpAny_newList ?_ (by rw[sizeLine_eq];lia))) (by rw[sizeLine_eq];lia))));generalize hh:((Hy (seqObj "list" #[] 0)).update s.heap.objs.size (GF (·++vs.toArray)))=h1;have hsz:h1.objs.size=s.heap.objs.size+1:=by rw[<-hh,Heap.size_update,size_push']
 have keep:∀b o,s.heap.get? b=some o->(HJ HF).get? b=some o:=λb o q=>by
  have iO:b<s.heap.objs.size:=Bf q;rw[WT (by rw[hsz];exact Dn (Xp iO)),<-hh,wQ Rz,WT Rz];exact q
 have LC:(HJ HF).get? h1.objs.size=some (JA 0):=Heap.get?_push_size _ rfl;have hD:s.heap.objs.size<=h1.objs.size:=by rw[hsz];exact Nat.le_succ _
 have abu:H h1.objs.size=none:=HA hD;have I1:Inv X pins σ H {s with heap:=HJ HF}:=ic (t':=s.toks);show wpAny _ _ _ _ _ {s with heap:=HJ HF};refine wpAny_bind (IC (wpAny_call_entry_kw slot_list_sort ⟨_,LC,rfl⟩ entry_list_sort ?_ (ksk_l1 _ _)));show wpAny Ak X.A.in1.in1 (kD ⟨[.ref h1.objs.size],[(Str.ofString "key", .ref f)]⟩) _ _ _;rw[ksk_t1];have un:=hr.un;refine ago F ⟨hr.hd,by have:=hr.dp;show X.A.depth+3*k+5<_;lia,by show X.A.units+1+1+16*k+200<_;lia⟩ rfl hb (by show X.A.units+1+1+1<_;lia) I1 LC (I.ur hD abu) r A3 nd A3 p5 λp H' s' hp hs sm hn I'=>⟨_,rfl,B2 ⟨_,rfl, .ref h1.objs.size,_,I',rfl,?_⟩⟩
 rw[<-L']at hp hs;exact h p H' _ hp hs sm abu hn
end
inductive Il(K:Frag)(sp:Sp)(x:V)(H:Hp)(Q:VK):Prop
 |mk (l) (xs) (ws) (_:x= .ref l) (_:gF K H l xs) (_:ws.length=xs.length) (_:ws.Nodup) (_:xs.length<10000) (_:∀i v H1,xs[i]?=some v->av H H1->sp [v] H1 Vc E0)
  (_:∀p H' D,zV xs.length p->Sd Mg p xs.length->av H H'->H D=none->H' D=none->Q (.ref D) (upd H' D (.lst (p.toList.map λi=>IX i)))):Il K sp x H Q
def apS(K:Frag)(sp:Sp)(ta:TE):TE:=λσ H Q=>ta σ H λx H1=>Il K sp x H1 Q
theorem apz{X} (K) {cm} {k} {x} {ps} {sp} {e} {ta} {p pos kp fp} (D:bI X.prog X.w X.K X.mg X.base cm k x ps sp) (hr:e_ cm (k+1) X.A) (he:PE X e ta) (hg:Gl X "sorted") (hm:X.mg "sorted"=none)
  (hgf:Gl X x:=by rfl) (vZ:(x==("__debug__":Str))=false:=by decide) (hs:starEach [e] X.env=[(false,eval e X.env)]:=by rfl) (hK:X.K=K:=by rfl):
  PE X (.Call (.Name "sorted" p) [e] [⟨some "key", .Name x fp,kp⟩] pos) (apS K sp ta):=by
 subst hK;obtain⟨f,fd,ok,hmf,hk,hb⟩:=D;intro pins s σ H Q I h;refine wpAny_Call_Name_kw (X4 I hg hm (PyProof.Rows.Boot.«sorted»));rw[hs];refine callWith_builtin_kwB (first:=[]) rfl rfl (aqO ?_);refine Calls.spliced_cons ?_;show wpAny _ _ (eval e X.env) _ _ s;refine cU Fj λv s1 ⟨y,H1,I1,r1,q1⟩=>NM ?_
 obtain⟨l,xs,ws,rfl,hq,hlen,nd,Ic,p5,q⟩:=q1;cases r1;refine kws_cons ?_;show wpAny _ _ (eval (.Name x fp) X.env) _ _ s1;refine cU (abW (v:= .ref f) hgf hmf rfl vZ pins s1 σ H1 (λy H2=>y= .ref f/\H2=H1) I1 ⟨rfl,rfl⟩) λu s2 ⟨y,H2,I2,r2,e1,e2⟩=>?_
 subst e1 e2;cases r2;refine kws_nil ?_;exact alZ ok hr hb I2 hq hlen nd Ic p5 q
end QF
namespace L2
open PySem PySem.Spec PyProof.Rows PySem.W PySem.Calls
def PH(hi:Int)(n:Nat):It:=⟨λi _=>i<n,λi H x H'=>H'=H/\x= .int (hi-i),λi _=>n<=i⟩
theorem afC{K:PySem.W.Frag} (it) (hi) (n):Turn P w K tg (PH hi n) [it] it (λi h=>IsRangeIter h it (hi+(i:Nat)*(-1)) ((n:Int)-(i:Nat)) (-1)) where
 mem:=AA
 obj:=λi h st b hb=>by
  have e:b=it:=by simpa using hb
  subst e;exact⟨_,st,λv z=>by
   have z':Data.fields _=Data.cell v:=z;cases z'⟩
 keep:=λi h h' st k=>k it (AA) _ st
 item:=by
  intro X hP hw hK hc i pins s σ H E I hf st hg;subst hP hw hK;obtain⟨f0,f1,f2,f3,f4,f5⟩:=FW it;have W:=wO hi (-1) n;refine W.item i s _ _ hg st λv h' tk hv aW kk=>?_
  obtain⟨t,rfl⟩:=hv;have I1:Inv X pins σ H {s with heap:=h',toks:=tk}:=I.turned (λb o hb e=>kk b o (by simpa using hb) e) f0 f1 f3 f4 f5;refine⟨_,rfl,xq (s:={s with heap:=h',toks:=tk}) (n:="range_iterator") aW rfl rfl (AN) ⟨.int (hi-i),H,I1,⟨t,?_⟩,⟨rfl,rfl⟩,aW,λb hb=>(FK b).1⟩⟩
  congr 1
  lia
 done:=by
  intro X hP hw hK hc i pins s σ H E I hf st hg;subst hP hw hK;obtain⟨f0,f1,f2,f3,f4,f5⟩:=FW it;exact wpAny_pyNext_range_end Gp st (by have:n<=i:=hg;lia) λh' eb=>⟨rfl,MZ f5⟩
 self:=λ_ _ _ _ _ st h=>ant h
theorem rangeSize_down(a b:_):Builtin.Range.rangeSize a b (-1)=if a>b then a-b else 0:=by
 unfold Builtin.Range.rangeSize;rw[if_neg EN];split<;>simp
theorem small_down{a b}(ha:-(2^62)<=a)(RW:a<2^62)(hb:-(2^62)<=b)(Pt:b<2^62):Builtin.Range.small a b (-1)=true:=by
 unfold Builtin.Range.small;rw[rangeSize_down];simp only[Builtin.Range.rangeFitsLong,Bool.and_eq_true,Bool.or_eq_true,decide_eq_true_eq,beq_iff_eq,show ¬(-1:Int)>0 by decide,if_false];split<;>lia
section
variable{X:Cx}{tg:Expr}
theorem avy{R}{hi lo:Int}{t:Tok}(I:Inv X pins σ H s)(h1:-(2^62)<=hi)(h2:hi<2^62)(h3:-(2^62)<=lo)(h4:lo<2^62)
  (q:R (PH hi (hi-lo).toNat) H):wpAny Ak X.A (pyIter (.ref s.heap.objs.size)) (pO R) E {s with heap:=s.heap.push {cls:= .type "range",data:= .fields #[.int hi t, .int lo u, .int (-1) v]},toks:=tk}:=by
 refine wpAny_pyIter_range (IsRange.new ..) (small_down h1 h2 h3 h4) ?_;have I1:Inv X pins σ H {s with heap:=s.heap.push {cls:= .type "range",data:= .fields #[.int hi t, .int lo u, .int (-1) v]},toks:=tk}:=I.kept λb o e=>BL e
 refine⟨(s.heap.push {cls:= .type "range",data:= .fields #[.int hi t, .int lo u, .int (-1) v]}).objs.size,[(s.heap.push {cls:= .type "range",data:= .fields #[.int hi t, .int lo u, .int (-1) v]}).objs.size],_,_,H,rfl,
  I1.kept (t':=tk) λb o e=>BL e,afC _ hi (hi-lo).toNat,?_,λb hb=>?_,q⟩
 ·have e1:hi+((0:Nat):Int)*(-1)=hi:=AA;have e2:(((hi-lo).toNat:Nat):Int)-((0:Nat):Int)=Builtin.Range.rangeSize hi lo (-1):=by rw[rangeSize_down];split<;>lia
  show IsRangeIter _ _ (hi+((0:Nat):Int)*(-1)) ((((hi-lo).toNat:Nat):Int)-((0:Nat):Int)) (-1);rw[e1,e2];exact Heap.get?_push_size _ rfl
 ·have e:b=(s.heap.push {cls:= .type "range",data:= .fields #[.int hi t, .int lo u, .int (-1) v]}).objs.size:=by simpa using hb
  subst e;exact Z7 Bj
def ajO(ta:TA):TI:=λσ H R=>ta σ H λvs H1=>∃i j:Int,vs=[.int i, .int j, .int (-1)]/\(-(2^30)<=i/\i<2^30/\-(2^30)<=j/\j<2^30)/\R (PH i (i-j).toNat) H1
theorem aim{a b c}{ta}{p pos}(hg:Gl X "range")(hm:X.mg "range"=none)(ha:PA X [a,b,c] ta)(hs:starEach [a,b,c] X.env=[(false,eval a X.env),(false,eval b X.env),(false,eval c X.env)]:=by rfl)(By:starEach [b,c] X.env=[(false,eval b X.env),(false,eval c X.env)]:=by rfl):
  PI X tg (.Call (.Name "range" p) [a,b,c] [] pos) (ajO ta):=by
 intro pins s σ H R I h;refine Call_ (jE I hg hm boot_range (zy (cU JJ λus s1 ⟨vs,H1,I1,r1,q1⟩=>?_) (by rw[hs,By]) (by rw[By];rfl)));obtain⟨i,j,e,⟨q1,q2,q3,q4⟩,q⟩:=q1;subst e;cases r1 with
 |cons r rr=>
  cases rr with
  |cons r' rr=>
   cases rr with
   |cons r2 rr=>
    cases rr;obtain⟨t,rfl⟩:=r;obtain⟨t',rfl⟩:=r';obtain⟨t2,rfl⟩:=r2;exact call_range_3 EN (avy I1 A3 (by lia) (by lia) (by lia) q) (Or.inl (PyProof.noPylong_small A3))
theorem acS{hi:Int}{n:Nat}{g:TG}{tb:TS}{D:Ends}{σ}{H}(Pv:Nat->L2.St->Hp->Prop)(h0:Pv 0 σ H)
  (hs:∀i σ H,i<n->Pv i σ H->g (.int (hi-i)) σ H λf6 H2=>tb {D with nx:=Pv (i+1),ct:=Pv (i+1),bk:=D.nx} f6 H2) (hd:∀σ H,Pv n σ H->D.nx σ H):
  ∃W:Nat->Nat->L2.St->Hp->Prop,(∃m,Ro H)/\∀i m σ H,W i m σ H->
   ((PH hi n).stop i H/\D.nx σ H)∨((PH hi n).go i H/\∃N:L2.St->Hp->Prop,(∀bK H',N bK H'->∃m',m'<m/\W (i+1) m' bK H')/\∀x H',(PH hi n).JL i H x H'->g x σ H' λf6 H2=>tb {D with nx:=N,ct:=N,bk:=D.nx} f6 H2):=by
 refine⟨λi m σ H=>m=n-i/\i<=n/\Pv i σ H,⟨n,AA,Nat.zero_le _,h0⟩,?_⟩;rintro i m σ H ⟨rfl,BB,p⟩;by_cases iO:i<n
 ·refine .inr ⟨iO,Pv (i+1),λbK H' p'=>⟨n-(i+1),by lia,rfl,iO,p'⟩,λx H' y=>?_⟩;obtain⟨e,y⟩:=y;subst e y;exact hs i σ _ iO p
 ·have e:i=n:=by lia
  subst e;exact .inl ⟨Nat.le_refl _,Td p⟩
end
theorem auU{d}{kvs}{ls}{σ}(Pv:Nat->List V->L2.St->Hp->Prop)
  (h0:Pv 0 [] (G_ σ) (Gr H1 D)) (hl:∀i ys σ H,i<=kvs.length->Pv i ys σ H->H d=some (.t9 o (.dT kvs)))
  (hs:∀i p ys σ H,kvs[i]?=some p->Pv i ys σ H->g p.2 σ H λf6 H3=>tt f6 H3 λb H4=>if b=true then te f6 H4 λy H5=>H5 D=some (.lst ys)/\ys.length<sizeLine/\Pv (i+1) (ys++[y]) f6 J0 else Pv (i+1) ys f6 H4)
  (hd:∀ys σ H,Pv kvs.length ys σ H->Q (.ref D) H):tf sq ls js g tt te σ H1 D Q:=
 nF (n:=kvs.length) Pv h0 (λi ys σ H hi p=>⟨RZ p,hi⟩) (λys σ H p=>⟨VZ p,Nat.le_refl _⟩)
  (λi ys σ H x H2 hi p y=>by
   obtain⟨rfl,q,hq,rfl⟩:=y;exact hs i q ys σ _ hq p) hd
theorem aiF{X}{cm}{k}{x}{C}{ps}{l_}{sp}{E}{p pos}(D:oE X.prog X.w X.K X.mg X.base cm k x C ps l_ sp)(hr:e_ cm (k+1) X.A)(hx:Passes GQ X E)(hg:Gl X x:=by rfl)(vZ:(x==("__debug__":Str))=false:=by decide):
  PE X (.Call (.Name x p) [] [] pos) (WW GI):=by
 obtain⟨f,fd,ds,ok,M,hm,hb,hd⟩:=D;exact ang M ok hr hg hm hb hd hx vZ
end L2
namespace QF
open PySem L2
structure rO(H:Hp)(C x dx e b:Addr)(es bs:List Addr)(f:Nat->Nat->Option Int)(o p:Int)(n m:Nat):Prop where
 ob:H x=some (.ins C dx (Ft p))
 he:H e=some (.lst RL)
 te:fE H es (dh f o p) n m
 hb:H b=some (.lst vn)
 tb:fE H bs (Bq f o p) (n+1) (m+1)
theorem rO.keep{b:Addr}{bs:List Addr}{p:Int}(t:rO H C x dx e b es bs f o p n m)(s:av H H'):rO H' C x dx e b es bs f o p n m:=
 ⟨De t.ob,De t.he,t.te.same s,De t.hb,t.tb.same s⟩
theorem Iq(o p:_)(e b:_):(Ft p).lookup ("goes_on":Str)=none:=by kernel_rfl
theorem D9(o p:_)(e b:_):(Ft p).lookup ("crossings_before":Str)=none:=by kernel_rfl
theorem Mc(o p:_)(e b:_):(Ft p).lookup ("is_brought_by":Str)=none:=by kernel_rfl
theorem aha(o p:_)(e b:_):(Ft p).lookup ("pair_before":Str)=none:=by kernel_rfl
theorem aqs(o p:_)(e b:_):(Ft p).lookup ("way_to":Str)=none:=by kernel_rfl
def ij:Option Int->Bool
 |none=>false
 |some b=>decide (0<=b)
def bF(f:Nat->Nat->Option Int)(o p:Int)(i j:Nat):List Pr:=
 (if bL Od o=Bq f o p (i+1) (j+1)then[((i:Int),((j+1:Nat):Int))]else[])++(if bL (QW f) p=Bq f o p (i+1) (j+1)then[(((i+1:Nat):Int),(j:Int))]else[])
def c7(f:Nat->Nat->Option Int)(o p:Int):Nat->Nat->Nat×Nat
 |0,_=>(0,0)
 | _+1,0=>(0,0)
 |i+1,j+1=>if dh f o p i j=Bq f o p (i+1) (j+1)then(i,j)else if bL Od o=Bq f o p (i+1) (j+1)then c7 f o p i (j+1)else c7 f o p (i+1) j
termination_by i j=>(i,j)
theorem lK (f) (o p:_):∀i j,0<i->0<j->(Bb j).1<i/\(Bb j).2<j∨Bq f o p i j=none
 |0,_,h,_=>qO h
 | _+1,0,_,h=>qO h
 |i+1,j+1,_,_=>by
  cases hB:Bq f o p (i+1) (j+1)with
  |none=>exact .inr rfl
  |some v=>
   left
   unfold c7;by_cases h1:dh f o p i j=Bq f o p (i+1) (j+1)
   ·rw[A7 h1];exact⟨AA,AA⟩
   ·rw[A6 h1];by_cases h2:bL Od o=Bq f o p (i+1) (j+1)
    ·rw[A7 h2];have hn:Bq f o p i (j+1)≠none:=λz=>by rw[z,hB]at h2;simp[bL]at h2
     have hi:0<i:=by
      cases i with
      |zero=>exact Jj vm
      |succ i=>lia
     rcases lK f o p i (j+1) hi A3 with z|z
     ·exact⟨by lia,z.2⟩
     ·exact Jj z
    ·rw[A6 h2];have hn:Bq f o p (i+1) j≠none:=λz=>by
      have e:Bq f o p (i+1) (j+1)=qj [GG i j,KI o,QT p]:=by
       rw[Bq];rfl
      rw[z]at e;have:bL none p=(none:Option Int):=rfl;rw[this]at e;have key:∀a b:Option Int,qj [a,b,none]=a∨qj [a,b,none]=b:=λa b=>by
       cases a<;>cases b<;>simp[qj]
       rename_i x y
       by_cases Cr:x<=y
       ·right;lia
       ·left;lia
      rcases key (GG i j) (KI o)with k|k
      ·exact h1 (by rw[e,k])
      ·exact h2 (by rw[e,k])
     have hj:0<j:=by
      cases j with
      |zero=>exact absurd (by unfold Bq;rfl) hn
      |succ j=>lia
     rcases lK f o p (i+1) j A3 hj with z|z
     ·exact⟨z.1,by lia⟩
     ·exact Jj z
termination_by i j=>(i,j)
def fj(f:Nat->Nat->Option Int)(o p:Int):Nat->Nat->Nat->List (Nat×Nat)
 |0,i,j=>[(i,j)]
 |k+1,i,j=>if ij (Dv j)=true then fj f o p k (Bb j).1 (Bb j).2++[(i,j)]else[(i,j)]
def aN(q:Nat×Nat):Pr:=((q.1:Int),(q.2:Int))
inductive rP(C CT:Addr)(vs:List V)(H:Hp)(Q:VK)(u3:XK):Prop
 |mk (x dx w t:_) (c) (as) (f) (n m:_) (_:vs=[.ref x, .ref w, .ref t]) (_:H x=some (.ins C dx [])) (_:H dx=some (.own x)) (_:H w=some (.lst Dt)) (_:fE H as f n m) (_:uI H CT t c) (_:n<=1000) (_:m<=1000) (_:∀H' e b,SameBut x H H'->H' x=some (.ins C dx Oh)->Tab H H' e (VH f) n m->(0<n->Tab H H' b (Bq f c.out c.into) (n+1) (m+1))->Q .de H'):rP C CT vs H Q u3
inductive yK(C:Addr)(vs:List V)(H:Hp)(Q:VK)(u3:XK):Prop
 |mk (x dx e b:_) (es bs:_) (f) (o p:_) (n m:_) (pr) (i j:Nat) (_:vs=[.ref x, .ref pr]) (_:rO H C x dx e b es bs f o p n m) (_:H pr=some (.tup [.int i, .int j])) (_:i<=n) (_:j<=m) (_:Q (.bl (ij (Dv j))) H):yK C vs H Q u3
inductive Cz(C:Addr)(vs:List V)(H:Hp)(Q:VK)(u3:XK):Prop
 |mk (x dx e b:_) (es bs:_) (f) (o p:_) (n m:_) (cr pr:_) (i j k l:Nat) (_:vs=[.ref x, .ref cr, .ref pr]) (_:rO H C x dx e b es bs f o p n m) (_:H cr=some (.tup [.int i, .int j])) (_:H pr=some (.tup [.int k, .int l])) (_:i<=n) (_:j<=m) (_:k<n) (_:l<m) (_:Q (.bl (decide (dh f o p k l=Bq f o p i j))) H):Cz C vs H Q u3
inductive uP(C:Addr)(vs:List V)(H:Hp)(Q:VK)(u3:XK):Prop
 |mk (x dx e b:_) (es bs:_) (f) (o p:_) (n m:_) (cr) (i j:_) (_:vs=[.ref x, .ref cr]) (_:rO H C x dx e b es bs f o p n m) (_:H cr=some (.tup [.int ((i+1:Nat):Int), .int ((j+1:Nat):Int)])) (_:i<n) (_:j<m) (_:∀H' r us,av H H'->H r=none->H' r=some (.lst us)->gw H' us (Eh f)->Q (.ref r) H'):uP C vs H Q u3
inductive yL(C:Addr)(vs:List V)(H:Hp)(Q:VK)(u3:XK):Prop
 |mk (x dx e b:_) (es bs:_) (f) (o p:_) (n m:_) (pr) (i j:Nat) (_:vs=[.ref x, .ref pr]) (_:rO H C x dx e b es bs f o p n m) (_:H pr=some (.tup [.int i, .int j])) (_:i<=n) (_:j<=m) (_:Bq f o p i j≠none) (_:∀H' r,av H H'->H' r=some (.tup (kM (aN (Bb j))))->Q (.ref r) H'):yL C vs H Q u3
inductive CA(C:Addr)(vs:List V)(H:Hp)(Q:VK)(u3:XK):Prop
 |mk (x dx e b:_) (es bs:_) (f) (o p:_) (n m:_) (pr) (i j:Nat) (_:vs=[.ref x, .ref pr]) (_:rO H C x dx e b es bs f o p n m) (_:H pr=some (.tup [.int i, .int j])) (_:i<n) (_:j<m) (_:n<=1000) (_:∀H' r us,av H H'->H r=none->H' r=some (.lst us)->gw H' us ((Es f i i j).map aN)->Q (.ref r) H'):CA C vs H Q u3
theorem mx3(a b:_):qj [a,b,none]=a∨qj [a,b,none]=b:=by
 cases a<;>cases b<;>simp[qj]
 rename_i x y
 by_cases Cr:x<=y
 ·right;lia
 ·left;lia
theorem aoc{p:Int}(hB:Bq f o p (i+1) (j+1)≠none)(h1:dh f o p i j≠Bq f o p (i+1) (j+1)):
  ∃i2 j2,(Eh f)[0]?=some (aN (i2+1,j2+1))/\i2<=i/\j2<=j/\i2+j2<i+j/\Bq f o p (i2+1) (j2+1)≠none/\c7 f o p (i2+1) (j2+1)=c7 f o p (i+1) (j+1):=by
 by_cases h2:bL Od o=Bq f o p (i+1) (j+1)
 ·have hn:Bq f o p i (j+1)≠none:=λz=>by rw[z]at h2;exact hB h2.symm
  cases i with
  |zero=>exact Jj vm
  |succ i=>
   refine⟨i,j,?_,by lia,by lia,by lia,hn,?_⟩
   ·unfold bF;rw[A7 h2];rfl
   ·conv=>rhs;unfold c7
    rw[A6 h1,A7 h2]
 ·have hn:Bq f o p (i+1) j≠none:=λz=>by
   have e:Bq f o p (i+1) (j+1)=qj [GG i j,KI o,QT p]:=by rw[Bq];rfl
   rw[z,show bL none p=(none:Option Int)from rfl]at e;rcases mx3 (GG i j) (KI o)with k|k
   ·exact h1 (by rw[e,k])
   ·exact h2 (by rw[e,k])
  have h3:bL (QW f) p=Bq f o p (i+1) (j+1):=by
   have e:Bq f o p (i+1) (j+1)=qj [GG i j,KI o,QT p]:=by rw[Bq];rfl
   have key:∀a b c:Option Int,qj [a,b,c]≠a->qj [a,b,c]≠b->c=qj [a,b,c]:=λa b c=>by
    cases a<;>cases b<;>cases c<;>simp[qj]<;>lia
   rw[e];exact key _ _ _ (λz=>h1 (by rw[e];exact z.symm)) (λz=>h2 (by rw[e];exact z.symm))
  cases j with
  |zero=>exact absurd (by unfold Bq;rfl) hn
  |succ j=>
   refine⟨i,j,?_,by lia,by lia,by lia,hn,?_⟩
   ·unfold bF;rw[A6 h2,A7 h3];rfl
   ·conv=>rhs;unfold c7
    rw[A6 h1,A6 h2]
theorem kX{p:Int}(h:ij (Dv j)=true):0<i/\0<j/\Bq f o p i j≠none:=by
 have hn:Bq f o p i j≠none:=λz=>by rw[z]at h;cases h
 refine⟨?_,?_,hn⟩
 ·cases i with
  |zero=>exact Jj (Yk f j)
  |succ i=>lia
 ·cases j with
  |zero=>cases i with
   |zero=>exact Jj (Yk f 0)
   |succ i=>exact absurd (by unfold Bq;rfl) hn
  |succ j=>lia
theorem ir{p:Int}(h:¬ij (Dv j)=true):∀k,fj f o p k i j=[(i,j)]
 |0=>rfl
 |k+1=>by rw[fj,A6 h]
theorem ady (f) (o p:_) (i):∀k k' j,i<=k->i<=k'->fj f o p k i j=fj f o p k' i j:=by
 induction i using Nat.strongRecOn with
 |ind i ih=>
  intro k k' j h h';by_cases hg:ij (Dv j)=true
  ·obtain⟨a,b,c⟩:=kX hg;have hl:=(lK f o p i j a b).resolve_right c;obtain⟨k,rfl⟩:∃k1,k=k1+1:=⟨k-1,by lia⟩
   obtain⟨k',rfl⟩:∃k1,k'=k1+1:=⟨k'-1,by lia⟩
   rw[fj,fj,A7 hg,A7 hg,ih _ hl.1 k k' _ (by lia) (by lia)]
  ·rw[ir hg,ir hg]
theorem aca{p:Int}(h:ij (Dv j)=true):fj f o p i i j=fj f o p (Bb j).1 (Bb j).1 (Bb j).2++[(i,j)]:=by
 obtain⟨a,b,c⟩:=kX h;have hl:=(lK f o p i j a b).resolve_right c;obtain⟨i,rfl⟩:∃k1,i=k1+1:=⟨i-1,by lia⟩
 rw[fj,A7 h,ady f o p _ i _ _ (by lia) (Nat.le_refl _)]
structure acB(K:W.Frag)(C:Addr):Prop where
 cl:x9 K C
 worth:cq K C "worth"
 way:cq K C "way"
 row:cq K C "row"
 pairs:cq K C "pairs"
def oI(w:Int)(a r p:Addr):List (Str×V):=[("worth", .int w),("way", .ref a),("row", .ref r),("pairs", .ref p)]
theorem aas (w) (a r p:_):(K6 a p).lookup ("worth":Str)=some (Io w):=by kernel_rfl
theorem o8 (w) (a r p:_):(K6 a p).lookup ("way":Str)=some (C_ a):=by kernel_rfl
theorem ajn (w) (a r p:_):(K6 a p).lookup ("row":Str)=some (C_ r):=by kernel_rfl
theorem iT (w) (a r p:_):(K6 a p).lookup ("pairs":Str)=some (C_ p):=by kernel_rfl
theorem auM (w) (a r p:_):bE "pairs" (.ref p) (bE "row" (.ref r) (zl "way"))=oI w a r p:=by kernel_rfl
inductive uQ(C:Addr)(vs:List V)(H:Hp)(Q:VK)(u3:XK):Prop
 |mk (x dx a r p:_) (w) (_:vs=[.ref x, .int w, .ref a, .ref r, .ref p]) (_:H x=some (.ins C dx [])) (_:Q .de (Hh (.ins C dx (K6 a p)))):uQ C vs H Q u3
inductive uR(C:Addr)(vs:List V)(H:Hp)(Q:VK)(u3:XK):Prop
 |mk (x dx a r p:_) (w) (us) (ps) (_:vs=[.ref x]) (_:H x=some (.ins C dx (K6 a p))) (_:H p=some (.lst us)) (_:gw H us ps) (_:ps≠[]) (_:∀H' k t,av H H'->H' k=some (.tup [.int (-w), .ref t])->H' t=some (.tup [.int (j5 ps).1, .int (j5 ps).2])->Q (.ref k) H'):uR C vs H Q u3
inductive CB(C CF:Addr)(vs:List V)(H:Hp)(Q:VK)(u3:XK):Prop
 |mk (x dx e b:_) (es bs:_) (f) (o p:_) (n m:_) (w) (pr) (us) (ps:List (Nat×Nat)) (q0) (_:vs=[.ref x, .int w, .ref pr]) (_:rO H C x dx e b es bs f o p n m) (_:H pr=some (.lst us)) (_:gw H us (ps.map aN)) (_:∀q∈ps,q.1<n/\q.2<m) (_:(ps.filter λq=>decide (dh f o p q.1 q.2=some w))[0]?=some q0) (_:n<=1000) (_:ps.length<=5000)
  (_:∀H' y dy wy rw iC,av H H'->H y=none->H dy=none->H wy=none->H rw=none->H' y=some (.ins CF dy (oI w wy rw pr))->H' dy=some (.own y)->H' wy=some (.lst iC)->gw H' iC ((Es f q0.1 q0.1 q0.2).map aN)->H' rw=some (.lst ((Es f q0.1 q0.1 q0.2).map λq=>bu (GG q.1 q.2)))->Q (.ref y) H'):CB C CF vs H Q u3
theorem D_{f}{o p}:∀k i j,i<n->j<m->∀q∈fj f o p k i j,q.1<n/\q.2<m
 |0,i,j,hi,hj,q,hq=>by
  have:q=(i,j):=by simpa[fj]using hq
  subst this;exact⟨hi,hj⟩
 |k+1,i,j,hi,hj,q,hq=>by
  by_cases h:ij (Dv j)=true
  ·rw[fj,A7 h]at hq;obtain⟨a,b,c⟩:=kX h;have hl:=(lK f o p i j a b).resolve_right c;rcases List.mem_append.mp hq with z|z
   ·exact D_ k _ _ (by lia) (by lia) q z
   ·have:q=(i,j):=by simpa using z
    subst this;exact⟨hi,hj⟩
  ·rw[ir h]at hq;have:q=(i,j):=by simpa using hq
   subst this;exact⟨hi,hj⟩
theorem adI{p:Int}:∀k i j,(Es f k i j).length<=k+1
 |0,i,j=>by simp[fj]
 |k+1,i,j=>by
  by_cases h:ij (Dv j)=true
  ·rw[fj,A7 h,List.length_append];have:=adI (f:=f) (o:=o) (p:=p) k (Bb j).1 (Bb j).2;simp
   lia
  ·rw[ir h];simp
end QF
namespace L2
open PySem PySem.Spec PyProof.Rows PySem.W PySem.Calls
section
variable{X:Cx}
inductive KW(K:Frag)(x:V)(y:V)(H:Hp)(Q:VK):Prop
 |mk (p q:_) (xs ys:_) (_:x= .ref p) (_:y= .ref q) (_:Gy K H p xs) (_:Gy K H q ys) (_:xs.all s_=true) (_:ys.all s_=true) (_:Q (.bl (!wc xs ys)) H):KW K x y H Q
theorem ahq (K) (hu:X.A.units<cLine) (hK:X.K=K:=by rfl):rm X (compareOp .NotEq) (KW K):=by
 subst hK;intro pins s σ H x y v u Q I rx ry h;obtain⟨p,q,xs,ys,rfl,rfl,hp,hq,f1,f2,k⟩:=h;cases rx;cases ry;obtain⟨its,r,pl,hz⟩:=Wz hp;obtain⟨dZ,r2,Ke,Po⟩:=Wz hq;have he:=abf (A:=X.A.in1) (s:=s) r r2 f1 f2;obtain⟨⟨cls,dd,data,sl⟩,ho,hc,n,hd⟩:=id pl;obtain⟨⟨NL,F6,data2,yg⟩,xI,vU,n2,hd2⟩:=id Ke;simp only at hc hd vU hd2;subst hc hd vU hd2;refine richCompare_meets_room (op:= .NotEq) ⟨_,ho,rfl⟩ ⟨_,xI,rfl⟩ F.slot_tuple_ne F.entry_tuple_ne (F.args_tuple_ne_2 _ _) (SeqAt.tuple_neAt p q its.toArray dZ.toArray n n2 dd F6 sl yg _) ⟨ho,xI,he,?_⟩ hu;have e:(!((B5 (min its.toArray.size dZ.toArray.size)).all (λj=>qN (Zl j))&&its.toArray.size==dZ.toArray.size))=!wc xs ys:=by
  rw[<-oW,r.length,r2.length];simp
 rw[e];exact⟨(λx=>nomatch x), .bl (!wc xs ys),H,I,rfl,k⟩
end
end L2
namespace QF
open PySem L2
theorem dJ{p q}(h:bf p=bf q):p=q:=by
 simp only[bf,List.cons.injEq,Sum.inl.injEq,and_true]at h;exact Cd h.1 h.2
theorem len_sub{α:Type}[YN α]:∀(l m:List α),l.Nodup->(∀x∈l,x∈m)->l.length<=m.length
 |[],m,_,_=>AA
 |x::r,m,hn,h=>by
  have Gx:=K8 hn;have hx:=K' x;have:=len_sub r (m.erase x) Gx.2 λy hy=>(List.mem_erase_of_ne (λe:y=x=>Gx.1 (by rw[<-e];exact hy))).mpr (h y (by simp[hy]))
  rw[List.length_erase_of_mem hx]at this;have:=List.length_pos_of_mem hx;simp
  lia
def Me(E:Pr->Pr->Prop)(p:Pr):Pr->Pr->Prop:=λa b=>E a b∨(a=p/\b=p)
def rQ(E:Pr->Pr->Prop)(p q:Pr):Pr->Pr->Prop:=λa b=>E a b∨((E a p∨E a q)/\(E b p∨E b q))
theorem ajR{p q a b}:rQ E p q a b↔rQ E q p a b:=by
 unfold rQ;rw[or_comm (a:=E a p),or_comm (a:=E b p)]
structure qu(S:Addr->Prop)(H:Hp)(S':Addr->Prop)(H':Hp):Prop where
 grow:∀a,S' a->S a∨H a=none
 keep:∀a o,¬S a->H a=some o->H' a=some o
theorem qu.trans(a:qu S H S' H')(b:qu S' H' WB WC):qu S H WB WC:=by
 refine⟨λx hx=>?_,λx o hs hx=>b.keep x o QK (a.keep x o hs hx)⟩
 ·rcases b.grow x hx with h|h
  ·exact a.grow x h
  ·by_cases hs:S x
   ·exact .inl hs
   ·right
    cases e:H x with
    |none=>rfl
    |some o=>rw[a.keep x o hs e]at h;cases h
 ·rcases a.grow x z with h|h
  ·exact hs h
  ·rw[hx]at h;cases h
theorem qu.same(s:av H H'):qu S H S H':=⟨λ_ h=> .inl h,λa o _ h=>s a o h⟩
theorem qu.put{a}(h:S a):qu S H S (Hf o):=⟨λ_ h=> .inl h,λb u hb e=>by rw[aq (λz:b=a=>hb (by rw[z];exact h))];exact e⟩
structure aaL(K:W.Frag)(C:Addr):Prop where
 cl:x9 K C
 qv:cq K C "leads"
 members:cq K C "members"
def tD(dl dm:Addr):List (Str×V):=[("leads", .ref dl),("members", .ref dm)]
theorem ajD(a b:_):(tD a b).lookup ("leads":Str)=some (C_ a):=by kernel_rfl
theorem aom(a b:_):(tD a b).lookup ("members":Str)=some (C_ b):=by kernel_rfl
theorem afR(a b:_):bE "members" (.ref b) (bE "leads" (.ref a) [])=tD a b:=by kernel_rfl
theorem agD(a b:_):(tD a b).lookup ("has":Str)=none:=by kernel_rfl
theorem abO(a b:_):(tD a b).lookup ("take_in":Str)=none:=by kernel_rfl
theorem aco(a b:_):(tD a b).lookup ("unite":Str)=none:=by kernel_rfl
theorem aop(a b:_):(tD a b).lookup ("told":Str)=none:=by kernel_rfl
def OE(H:Hp)(v:Option V):Option Pr->Prop
 |none=>v=none
 |some l=>∃t,v=some (.ref t)/\H t=some (.tup WY)
def WD(H:Hp)(S:Addr->Prop)(v:Option V):Option (List Pr)->Prop
 |none=>v=none
 |some ms=>∃a us,v=some (.ref a)/\H a=some (.lst us)/\gw H us ms/\S a
theorem OE.cT(h:OE H v o)(t:eC H H'):OE H' v o:=by
 cases o with
 |none=>exact h
 |some l=>obtain⟨a,h1,h2⟩:=h;exact⟨a,h1,t _ _ h2⟩
structure F'(H:Hp)(S:Addr->Prop)(dl dm:Addr)(kl km:List (List Key×V))(ld:Pr->Option Pr)(mm:Pr->Option (List Pr)):Prop where
 hl:H dl=some (.dT kl)
 hm:H dm=some (.dT km)
 sl:S dl
 sm:S dm
 ne:dl≠dm
 lv:∀p,OE H (bH kl R0) (ld p)
 mv:∀p,WD H S (bH km R0) (mm p)
 inj:∀p q a,bH km (bf p)=some (.ref a)->bH km (bf q)=some (.ref a)->p=q
 key:∀kv∈km,∃p,kv.1=bf p
 Eb:(km.map (·.1)).Nodup
 ms:∀l ms,mm l=some ms->ms.Nodup/\∀p,p∈ms↔ld p=some l
 ml:∀p l,ld p=some l->∃ms,mm l=some ms
 self:∀l ms,mm l=some ms->ld l=some l
theorem F'.keep{kl:List (List Key×V)}(d:F' H S dl dm kl km ld mm)(h:∀a o,S a->H a=some o->H' a=some o)(t:eC H H'):F' H' S dl dm kl km ld mm:=by
 refine⟨HB d.sl d.hl,HB d.sm d.hm,d.sl,d.sm,d.ne,λp=>(d.lv p).cT t,λp=>?_,d.inj,d.key,d.Eb,d.ms,d.ml,d.self⟩;have:=d.mv p;cases e:mm p with
 |none=>rw[e]at this;exact this
 |some ms=>
  rw[e]at this;obtain⟨a,us,h1,h2,h3,h4⟩:=this;exact⟨a,us,h1,HB h4 h2,h3.cT t,h4⟩
theorem F'.Bz{kl:List (List Key×V)}(d:F' H S dl dm kl km ld mm){ms:List Pr}(hn:ms.Nodup)(h:∀p∈ms,∃l,ld p=some l):ms.length<=kl.length:=by
 have:=len_sub (ms.map bf) (kl.map (·.1)) (List.Pairwise.map _ (λa b Iu z=>Iu Z6) hn) λk hk=>by
  obtain⟨p,hp,rfl⟩:=E4 hk;obtain⟨l,hl⟩:=h p hp;have:=d.lv p;rw[hl]at this;obtain⟨t,h1,_⟩:=this;exact DG h1
 simpa using this
theorem F'.take{a t:Addr}{kl:List (List Key×V)}{p}(d:F' H S dl dm kl km ld mm)(hn:ld p=none)(ht:H t=some (.tup JK))(ha:H a=none)
  (h1:H' dl=some (.dT awT)) (h2:H' dm=some (.dT (putK km R0 (.ref a)))) (h3:H' a=some (.lst [.ref t])) (hk:∀b o,b≠dl->b≠dm->H b=some o->H' b=some o):
  F' H' (λx=>S x∨x=a) dl dm awT (putK km R0 (.ref a)) (λq=>if q=p then some p else ld q) (λq=>if q=p then some [p]else mm q):=by
 have T:eC H H':=λb v hb=>hk b _ (λz=>by rw[z,d.hl]at hb;cases hb) (λz=>by rw[z,d.hm]at hb;cases hb) hb
 have abg:mm p=none:=by
  cases e:mm p with
  |none=>rfl
  |some ms=>have:=d.self p ms e;rw[hn]at this;cases this
 have Iw:bH km (bf p)=none:=by have:=d.mv p;rw[abg]at this;exact this
 have R4:∀q b,bH km (bf q)=some (.ref b)->b≠a:=λq b hq z=>by
  have:=d.mv q;cases e:mm q with
  |none=>rw[e]at this;have:bH km (bf q)=none:=this;rw[this]at hq;cases hq
  |some ms=>
   rw[e]at this;obtain⟨a',us,e1,e2,_⟩:=this;rw[hq]at e1;cases e1;rw[z,ha]at e2;cases e2
 refine⟨h1,h2, .inl d.sl, .inl d.sm,d.ne,λq=>?_,λq=>?_,λq r b hq hr=>?_,λkv Uo=>?_,?_,λl ms hl=>?_,λq l hq=>?_,λl ms hl=>?_⟩
 ·rw[jH];by_cases e:q=p
  ·rw[A7 (by rw[e]),A7 e];exact⟨t,rfl,N2 ht⟩
  ·rw[A6 Jh,A6 e];exact(d.lv q).cT T
 ·show WD _ _ _ (if q=p then some [p]else mm q);rw[jH];by_cases e:q=p
  ·rw[A7 (by rw[e]),A7 e];exact⟨a,_,rfl,h3,gw.one (N2 ht), .inr rfl⟩
  ·rw[A6 Jh,A6 e];have:=d.mv q;cases e2:mm q with
   |none=>rw[e2]at this;exact this
   |some ms=>
    rw[e2]at this;obtain⟨b,us,z1,z2,z3,z4⟩:=this;exact⟨b,us,z1,hk b _ (λz=>by rw[z,d.hl]at z2;cases z2) (λz=>by rw[z,d.hm]at z2;cases z2) z2,z3.cT T, .inl z4⟩
 ·rw[jH]at hq hr;by_cases e:q=p
  ·by_cases e2:r=p
   ·rw[e,e2]
   ·rw[A7 (by rw[e])]at hq;rw[A6 avO]at hr;cases hq;exact EV (R4 r _ hr)
  ·rw[A6 Jh]at hq;by_cases e2:r=p
   ·rw[A7 (by rw[e2])]at hr;cases hr;exact EV (R4 q _ hq)
   ·rw[A6 avO]at hr;exact d.inj q r b hq hr
 ·rw[ux _ Iw]at Uo;rcases List.mem_append.mp Uo with z|z
  ·exact d.key kv z
  ·exact⟨p,by rw[List.mem_singleton.mp z]⟩
 ·rw[ux _ Iw,List.map_append];refine List.nodup_append.mpr ⟨d.Eb,AA,λx hx y hy e=>?_⟩;have hy:y=bf p:=by simpa using hy
  rw[e,hy]at hx;exact Ap Iw hx
 ·have hl:(if l=p then some [p]else mm l)=some ms:=hl;by_cases e:l=p
  ·rw[A7 e]at hl;cases hl;refine⟨AA,λq=>?_⟩;rw[List.mem_singleton];show q=p↔(if q=p then some p else ld q)=some l;by_cases e2:q=p
   ·rw[A7 e2,e];simp[e2]
   ·rw[A6 e2];refine⟨λz=>BO z e2,λz=>?_⟩;obtain⟨ms,Ga⟩:=d.ml q l z;rw[e,abg]at Ga;cases Ga
  ·rw[A6 e]at hl;obtain⟨z1,z2⟩:=d.ms l ms hl;refine⟨z1,λq=>?_⟩;rw[z2];show ld q=some l↔(if q=p then some p else ld q)=some l;by_cases e2:q=p
   ·rw[A7 e2,e2,hn];refine⟨λz=>(by cases z),λz=>absurd (Aw z).symm e⟩
   ·rw[A6 e2]
 ·have hq:(if q=p then some p else ld q)=some l:=hq;show ∃ms,(if l=p then some [p]else mm l)=some ms;by_cases e:l=p
  ·exact⟨[p],A7 e⟩
  ·rw[A6 e];by_cases e2:q=p
   ·rw[A7 e2]at hq;exact BO (Aw hq).symm e
   ·rw[A6 e2]at hq;exact d.ml q l hq
 ·have hl:(if l=p then some [p]else mm l)=some ms:=hl;show(if l=p then some p else ld l)=some l;by_cases e:l=p
  ·rw[A7 e,e]
  ·rw[A6 e]at hl⊢;exact d.self l ms hl
theorem Ec{κ:Type}[YN κ]{k:κ}:∀{kvs:List (κ×V)}{i:Nat},(kvs.map (·.1)).Nodup->kvs[i]?=some (k,v)->bH kvs k=some v
 |[],i,_,h=>by simp at h
 |p::r,0,_,h=>by
  have h:p=(k,v):=by simpa using h
  subst h;exact cV rfl
 |p::r,i+1,hn,h=>by
  have Gx:=K8 (show(p.1::r.map (·.1)).Nodup from hn);have h:r[i]?=some (k,v):=by simpa using h
  rw[cJ (λe=>Gx.1 (by rw[e];exact EY ⟨_,B7 h,rfl⟩))];exact Ec Gx.2 h
theorem adL{κ:Type}[YN κ]{k:κ}:∀{kvs:List (κ×V)},bH kvs k=some v->∃i:Nat,kvs[i]?=some (k,v)
 |[],h=>by cases h
 |p::r,h=>by
  by_cases e:p.1=k
  ·rw[cV e]at h;exact⟨0,by simp;exact Cd e (Aw h)⟩
  ·rw[cJ e]at h;obtain⟨i,hi⟩:=adL h;exact⟨i+1,by simpa using hi⟩
theorem nP{κ:Type}[YN κ](k j:_):∀kvs:List (κ×V),bH ν j=if j=k then none else bH kvs j
 |[]=>by simp[jG,bH]
 |p::r=>by
  have ih:=nP k j r;unfold jG at ih⊢;rw[List.filter_cons];by_cases e:p.1=k
  ·rw[A6 (by simpa using e),ih];by_cases e2:j=k
   ·rw[A7 e2,A7 e2]
   ·rw[A6 e2,A6 e2,cJ (λz=>e2 (pQ e))]
  ·rw[A7 (by simpa using e)];by_cases e2:p.1=j
   ·rw[cV e2,A6 (λz=>e (e2.trans z)),cV e2]
   ·rw[cJ e2,ih,cJ e2]
theorem F'.arn{kl:List (List Key×V)}(d:F' H S dl dm kl km ld mm)(Ed:l≠g)(h1:mm l=some m1)(h2:mm g=some m2)(yN:bH km (bf l)=some (.ref al))(P1:gw H mC m1)(P2:gw H iC m2)(Vz:H al=some (.lst mC))(AV:H tl=some (.tup WY))
  (WE:∀r,bH xU (bf r)=if r∈m2 then some (.ref tl)else bH kl QA) (e1:H' dl=some (.dT xU)) (e2:H' dm=some (.dT YH)) (e3:H' al=some (.lst (mC++iC))) (hk:∀b o,b≠dl->b≠dm->b≠al->H b=some o->H' b=some o):
  F' H' S dl dm xU YH (λr=>if r∈m2 then some l else ld r) (λr=>if r=g then none else if r=l then some (m1++m2)else mm r):=by
 have T:eC H H':=λb v hb=>hk b _ (λz=>by rw[z,d.hl]at hb;cases hb) (λz=>by rw[z,d.hm]at hb;cases hb) (λz=>by rw[z,Vz]at hb;cases hb) hb
 obtain⟨n1,q1⟩:=d.ms l m1 h1;obtain⟨n2,q2⟩:=d.ms g m2 h2;refine⟨e1,e2,d.sl,d.sm,d.ne,λr=>?_,λr=>?_,λp q a hp hq=>?_,λkv Uo=>d.key kv (N_ Uo).1,d.Eb.sublist atY,λx ms hx=>?_,λp x hp=>?_,λx ms hx=>?_⟩
 ·show OE H' _ (if r∈m2 then some l else ld r);rw[WE];by_cases e:r∈m2
  ·rw[A7 e,A7 e];exact⟨tl,rfl,N2 AV⟩
  ·rw[A6 e,A6 e];exact(d.lv r).cT T
 ·show WD H' S _ (if r=g then none else if r=l then some (m1++m2)else mm r);rw[nP];by_cases e:r=g
  ·rw[A7 (by rw[e]),A7 e];rfl
  ·rw[A6 Jh,A6 e];by_cases e4:r=l
   ·rw[A7 e4,e4,yN];have:=d.mv l;rw[h1]at this;obtain⟨a,us,z1,_,_,z4⟩:=this;rw[yN]at z1;cases z1;exact⟨al,_,rfl,e3,(P1.append P2).cT T,z4⟩
   ·rw[A6 e4];have:=d.mv r;cases e5:mm r with
    |none=>rw[e5]at this;exact this
    |some ms=>
     rw[e5]at this;obtain⟨a,us,z1,z2,z3,z4⟩:=this;exact⟨a,us,z1,hk a _ (λz=>by rw[z,d.hl]at z2;cases z2) (λz=>by rw[z,d.hm]at z2;cases z2) (λz=>e4 (d.inj r l al (by rw[z1,z]) yN)) z2,z3.cT T,z4⟩
 ·rw[nP]at hp hq;by_cases e:p=g
  ·rw[A7 (by rw[e])]at hp;cases hp
  ·by_cases e4:q=g
   ·rw[A7 (by rw[e4])]at hq;cases hq
   ·rw[A6 Jh]at hp;rw[A6 (λz=>e4 Z6)]at hq;exact d.inj p q a hp hq
 ·have hx:(if x=g then none else if x=l then some (m1++m2)else mm x)=some ms:=hx;by_cases e:x=g
  ·rw[A7 e]at hx;cases hx
  ·rw[A6 e]at hx;by_cases e4:x=l
   ·rw[A7 e4]at hx;cases hx;refine⟨zv ⟨n1,n2,λa ha b hb z=>?_⟩,λp=>?_⟩
    ·have ha:=(q1 a).mp ha;have hb:=(q2 b).mp hb;rw[z,hb]at ha;exact Ed (Aw ha).symm
    ·rw[List.mem_append];show p∈m1∨p∈m2↔(if p∈m2 then some l else ld p)=some x;rw[e4];by_cases e5:p∈m2
     ·rw[A7 e5];simp[e5]
     ·rw[A6 e5,<-q1];simp[e5]
   ·rw[A6 e4]at hx;obtain⟨z1,z2⟩:=d.ms x ms hx;refine⟨z1,λp=>?_⟩;rw[z2];show ld p=some x↔(if p∈m2 then some l else ld p)=some x;by_cases e5:p∈m2
    ·rw[A7 e5,(q2 p).mp e5];exact⟨λz=>absurd (Aw z).symm e,λz=>absurd (Aw z).symm e4⟩
    ·rw[A6 e5]
 ·have hp:(if p∈m2 then some l else ld p)=some x:=hp;show ∃ms,(if x=g then none else if x=l then some (m1++m2)else mm x)=some ms;by_cases e5:p∈m2
  ·rw[A7 e5]at hp;cases hp;exact⟨m1++m2,by rw[A6 Ed,if_pos rfl]⟩
  ·rw[A6 e5]at hp;have hg:x≠g:=λz=>e5 ((q2 p).mpr (by rw[hp,z]))
   by_cases e4:x=l
   ·exact⟨m1++m2,by rw[A6 hg,A7 e4]⟩
   ·obtain⟨ms,Ga⟩:=d.ml p x hp;exact⟨ms,by rw[A6 hg,A6 e4];exact Ga⟩
 ·have hx:(if x=g then none else if x=l then some (m1++m2)else mm x)=some ms:=hx;show(if x∈m2 then some l else ld x)=some x;by_cases e:x=g
  ·rw[A7 e]at hx;cases hx
  ·rw[A6 e]at hx;have Yj:ld x=some x:=by
    by_cases e4:x=l
    ·rw[e4];exact d.self l m1 h1
    ·rw[A6 e4]at hx;exact d.self x ms hx
   have:x∉m2:=λz=>by
    have:=(q2 x).mp z;rw[Yj]at this;exact e (Aw this)
   rw[A6 this,Yj]
theorem ajx{ld:Pr->Option Pr}{l g p q:Pr}{m2:List Pr}(Ed:l≠g)(hp:ld p=some l)(hq:ld q=some g)(q2:∀r,r∈m2↔ld r=some g){E:Pr->Pr->Prop}(hE:∀a b,E a b↔∃x,ld a=some x/\ld b=some x)(a b:Pr):
  rQ E p q a b↔∃x,(if a∈m2 then some l else ld a)=some x/\(if b∈m2 then some l else ld b)=some x:=by
 have A:∀c,(E c p∨E c q)↔(if c∈m2 then some l else ld c)=some l:=λc=>by
  rw[hE,hE,hp,hq];by_cases e:c∈m2
  ·rw[A7 e,(q2 c).mp e];simp
  ·rw[A6 e];have:ld c≠some g:=λz=>e ((q2 c).mpr z)
   constructor
   ·rintro(⟨x,h1,h2⟩|⟨x,h1,h2⟩)
    ·cases h2;exact h1
    ·cases h2;exact BO h1 this
   ·exact λz=> .inl ⟨l,z,rfl⟩
 unfold rQ;rw[A,A,hE];constructor
 ·rintro(⟨x,h1,h2⟩|⟨h1,h2⟩)
  ·by_cases e:x=g
   ·subst e;exact⟨l,by rw[A7 ((q2 a).mpr h1)],by rw[A7 ((q2 b).mpr h2)]⟩
   ·exact⟨x,by rw[A6 (λz=>e (by have:=(q2 a).mp z;rw[h1]at this;exact Aw this))];exact h1,by rw[A6 (λz=>e (by have:=(q2 b).mp z;rw[h2]at this;exact Aw this))];exact h2⟩
  ·exact⟨l,h1,h2⟩
 ·rintro⟨x,h1,h2⟩;by_cases e:x=l
  ·subst e;exact .inr ⟨h1,h2⟩
  ·left
   refine⟨x,?_,?_⟩
   ·by_cases e2:a∈m2
    ·rw[A7 e2]at h1;exact BO (Aw h1).symm e
    ·rw[A6 e2]at h1;exact h1
   ·by_cases e2:b∈m2
    ·rw[A7 e2]at h2;exact BO (Aw h2).symm e
    ·rw[A6 e2]at h2;exact h2
def kE(H:Hp)(C g:Addr)(S:Addr->Prop)(E:Pr->Pr->Prop)(B:Nat):Prop:=
 ∃dg dl dm kl km ld mm,H g=some (.ins C dg (tD dl dm))/\¬S g/\F' H S dl dm kl km ld mm/\(∀a b,E a b↔∃l,ld a=some l/\ld b=some l)/\kl.length<=B/\km.length<=B
theorem kE.keep{B}(G:kE H C g S E B)(h:∀a o,S a->H a=some o->H' a=some o)(t:eC H H')(hg:∀o,H g=some o->H' g=some o):kE H' C g S E B:=by
 obtain⟨dg,dl,dm,kl,km,ld,mm,a1,a2,a3,a4⟩:=G;exact⟨dg,dl,dm,kl,km,ld,mm,hg _ a1,a2,a3.keep h t,a4⟩
theorem kE.same{B}(G:kE H C g S E B)(s:av H H'):kE H' C g S E B:=G.keep (λa o _ h=>s a o h) (Ex s) (λo h=>De h)
theorem kE.iff{B:Nat}(G:kE H C g S E B)(h:∀a b,E' a b↔E a b)(hB:B<=B'):kE H C g S E' B':=by
 obtain⟨dg,dl,dm,kl,km,ld,mm,a1,a2,a3,a4,a5,a6⟩:=G;exact⟨dg,dl,dm,kl,km,ld,mm,a1,a2,a3,λa b=>(h a b).trans (a4 a b),by lia,by lia⟩
structure Told(E:Pr->Pr->Prop)(gs:List (List Pr)):Prop where
 uO:∀ps∈gs,ps.Pairwise λp q=>kW p q=true
 ne:∀ps∈gs,ps≠[]
 cls:∀ps∈gs,∀a∈ps,∀b,b∈ps↔E a b
 all:∀a,E a a->∃ps∈gs,a∈ps
 apart:gs.Pairwise λps qs=>∀a∈ps,a∉qs
inductive uS(C:Addr)(vs:List V)(H:Hp)(Q:VK)(u3:XK):Prop
 |mk (x dx:_) (_:vs=[.ref x]) (_:H x=some (.ins C dx [])) (_:∀H' S,SameBut x H H'->(∀a,S a->H a=none)->kE H' C x S QH 0->Q .de H'):uS C vs H Q u3
inductive CC(C:Addr)(vs:List V)(H:Hp)(Q:VK)(u3:XK):Prop
 |mk (x t:_) (p) (S) (E) (B) (_:vs=[.ref x, .ref t]) (_:kE H C x S E B) (_:H t=some (.tup JK)) (_:∀b:Bool,(b=true↔E p p)->Q (.bl b) H):CC C vs H Q u3
inductive yO(C:Addr)(vs:List V)(H:Hp)(Q:VK)(u3:XK):Prop
 |mk (x t:_) (p) (S) (E) (B) (_:vs=[.ref x, .ref t]) (_:kE H C x S E B) (_:H t=some (.tup JK)) (_:B<=10000) (_:∀H' S',qu S H S' H'->kE H' C x S' (Me E p) (B+1)->Q .de H'):yO C vs H Q u3
inductive uT(C:Addr)(vs:List V)(H:Hp)(Q:VK)(u3:XK):Prop
 |mk (x t u:_) (p q:_) (S) (E) (B) (_:vs=[.ref x, .ref t, .ref u]) (_:kE H C x S E B) (_:H t=some (.tup JK)) (_:H u=some (.tup (kM q))) (_:E p p) (_:E q q) (_:B<=10000) (_:∀H',qu S H S H'->kE H' C x S (rQ E p q) B->Q .de H'):uT C vs H Q u3
inductive yP(C:Addr)(vs:List V)(H:Hp)(Q:VK)(u3:XK):Prop
 |mk (x) (S) (E) (B) (_:vs=[.ref x]) (_:kE H C x S E B) (_:B<10000) (_:∀H' r us gs,qu S H S H'->H r=none->H' r=some (.lst us)->gQ H' us gs->(∀(k:Nat) a,us[k]?=some (.ref a)->H a=none)->Told E gs->Q (.ref r) H'):yP C vs H Q u3
theorem uU (g) (o i:_) (ed:as≠[]) (q) (bs):vl g o i (as++q::bs)=vl g o i as-gp o i (Aj as) q+vl g o i (q::bs):=by
 rw[ql,abt g o i ed]
 lia
theorem Wy.app{q}{bs}(a:Wy g as)(b:Wy g (q::bs))(s:we (Aj as) q):Wy g (as++q::bs):=by
 refine⟨AA,λx hx=>?_,FU ⟨a.up,b.up,λx hx y hy=>?_⟩⟩
 ·rcases List.mem_append.mp hx with h|h
  ·exact a.ok x h
  ·exact b.ok x h
 ·have h1:we x q:=by
   rcases pw_lst a.up hx with e|e
   ·rw[e];exact s
   ·exact nN e s
  rcases List.mem_cons.mp hy with e|e
  ·rw[e];exact h1
  ·exact nN h1 ((NR b.up).1 y e)
theorem Wy.left{bs:List Pr}(w:Wy g (as++bs))(h:as≠[]):Wy g as:=⟨h,λx hx=>Gv x (CW hx),(Et w.up).1⟩
theorem Wy.right{bs:List Pr}(w:Wy g (as++bs))(h:bs≠[]):Wy g bs:=⟨h,λx hx=>Gv x (Cn hx),(Et w.up).2.1⟩
section
variable(f:Nat->Nat->Option Int)(o p W:Int)
def BW(ps:List Pr):Prop:=Wy Ab ps/\vl Ab o p ps=W
def eG:Prop:=∀ps,Wy Ab ps->vl Ab o p ps<=W
inductive f7:Pr->Pr->Prop
 |way {a b:Pr} (ps:List Pr) (_:BW f o p W ps) (_:a∈ps) (_:b∈ps):f7 a b
 |tr {a b c:Pr} (_:f7 a b) (_:f7 b c):f7 a c
def wg(as:List Pr)(x y:Int):Int:=vl Ab o p as-(o*(x-1-(Aj as).1)+p*(y-1-(Aj as).2))
def R6(q:Pr)(bs:List Pr)(x y:Int):Int:=vl Ab o p (q::bs)-(o*(q.1-x)+p*(q.2-y))
def Over(x y:Int)(r:Pr):Prop:=∃as q bs,Wy Ab as/\Wy Ab (q::bs)/\(Aj as).1<x/\(Aj as).2<y/\x<=q.1/\y<=q.2/\vl Ab o p (as++q::bs)=W/\r∈q::bs
end
section
variable{f:Nat->Nat->Option Int}{o p W:Int}
theorem f7.symm{a b}(h:f7 f o p W a b):f7 f o p W b a:=by
 induction h with
 |way ps h1 h2 h3=>exact .way ps h1 h3 h2
 |tr _ _ i1 i2=>exact .tr i2 i1
theorem f7.left{a b}(h:f7 f o p W a b):f7 f o p W a a:= .tr h h.symm
theorem f7.on{a b}(h:f7 f o p W a b):∃ps,BW f o p W ps/\a∈ps:=by
 induction h with
 |way ps h1 h2 h3=>exact⟨ps,h1,h2⟩
 |tr _ _ i1 _=>exact i1
theorem o_{q}{bs}(ed:as≠[])(x y:_):vl Ab o p (as++q::bs)=wg f o p as x y+R6 f o p q bs x y:=by
 rw[S_ ed];unfold wg R6 gp;have e1:q.1-(Aj as).1-1=(x-1-(Aj as).1)+(q.1-x):=by lia
 have e2:q.2-(Aj as).2-1=(y-1-(Aj as).2)+(q.2-y):=by lia
 rw[e1,e2,Int.mul_add,Int.mul_add]
 lia
theorem nQ(T:eG f o p W){q}{bs}(a:Wy Ab as)(b:Wy Ab (q::bs))(h3:x<=q.1)(h4:y<=q.2)(hW:vl Ab o p (as++q::bs)=W)
  (a':Wy Ab AW) (l1:(Aj AW).1<x) (l2:(Aj AW).2<y) (hb:wg f o p as x y<=wg f o p AW x y):BW f o p W (AW++q::bs):=by
 have w:=anl b;refine⟨w,?_⟩;have:=T _ w;rw[o_ a'.ne x y]at this⊢;rw[o_ a.ne x y]at hW
 lia
theorem yQ{i j:Nat}(a:Wy Ab as)(l1:(Aj as).1<(i:Int))(l2:(Aj as).2<(j:Int)):∃b,Bq f o p i j=some b/\wg f o p as i j<=b:=by
 have m:=Ko i j;cases e:Bq f o p i j with
 |none=>rw[e]at m;exact BO ⟨as,a,l1,l2,rfl⟩ (m _)
 |some b=>rw[e]at m;exact⟨b,rfl,m.2 _ ⟨as,a,l1,l2,rfl⟩⟩
theorem yR{b}(e:Bq f o p i j=some b):∃as,Wy Ab as/\(Aj as).1<(i:Int)/\(Aj as).2<(j:Int)/\wg f o p as i j=b:=by
 have m:=Ko i j;rw[e]at m;obtain⟨as,h1,h2,h3,h4⟩:=m.1;exact⟨as,h1,h2,h3,h4.symm⟩
theorem nU{b}(e:dh f o p i j=some b):∃as,Wy Ab as/\lstP as=aN (i,j)/\vl Ab o p as=b:=by
 have m:=gz f o p i j;rw[e]at m;obtain⟨as,h1,h2,h3⟩:=m.1;exact⟨as,h1,h2,h3.symm⟩
theorem yS(a:Wy Ab as)(l:lstP as=aN (i,j)):∃b,dh f o p i j=some b/\vl Ab o p as<=b:=by
 have m:=gz f o p i j;cases e:dh f o p i j with
 |none=>rw[e]at m;exact BO ⟨as,a,l,rfl⟩ (m _)
 |some b=>rw[e]at m;exact⟨b,rfl,m.2 _ ⟨as,a,l,rfl⟩⟩
theorem ajs(e:dh f o p i j=some W):f7 f o p W Be (aN (i,j)):=by
 obtain⟨as,h1,h2,h3⟩:=nU e;have:aN (i,j)∈as:=by rw[<-h2];exact dz h1.ne
 exact .way as ⟨h1,h3⟩ this this
theorem aty(T:eG f o p W)(h:Over f o p W ((i+1:Nat):Int) ((j+1:Nat):Int) r)(e:dh f o p i j=Bq f o p (i+1) (j+1)):f7 f o p W Be r:=by
 obtain⟨as,q,bs,a,b,l1,l2,l3,l4,hW,hr⟩:=h;obtain⟨v,hv,hle⟩:=pz a l1 l2;rw[hv]at e;obtain⟨AW,a',k1,k2⟩:=nU e;have hb:wg f o p AW ((i+1:Nat):Int) ((j+1:Nat):Int)=v:=by
  unfold wg;rw[k1,k2];have e1:((i+1:Nat):Int)-1-(aN (i,j)).1=0:=by show((i+1:Nat):Int)-1-(i:Int)=0;lia
  have e2:((j+1:Nat):Int)-1-(aN (i,j)).2=0:=by show((j+1:Nat):Int)-1-(j:Int)=0;lia
  rw[e1,e2,Int.mul_zero,Int.mul_zero];lia
 have:=nQ T a b l3 l4 hW a' (by rw[k1];simp[aN];lia) (by rw[k1];simp[aN];lia) (by rw[hb];exact hle);refine .way _ this (CW ?_) (Cn hr);rw[<-k1];exact dz a'.ne
theorem asR(T:eG f o p W)(h:Over f o p W ((i+1:Nat):Int) ((j+1:Nat):Int) r)(hx:x<=i+1)(hy:y<=j+1)(hc:c=o*((i+1:Nat)-x:Int)+p*((j+1:Nat)-y:Int))(e:bL (Bq f o p x y) c=Bq f o p (i+1) (j+1)):Over f o p W (x:Int) (y:Int) r:=by
 obtain⟨as,q,bs,a,b,l1,l2,l3,l4,hW,hr⟩:=h;obtain⟨v,hv,hle⟩:=pz a l1 l2;rw[hv]at e;cases e2:Bq f o p x y with
 |none=>rw[e2]at e;cases e
 |some v2=>
  rw[e2]at e;have e:v2-c=v:=by simpa[bL]using e
  obtain⟨AW,a',k1,k2,k3⟩:=yR e2;have hb:wg f o p AW ((i+1:Nat):Int) ((j+1:Nat):Int)=v:=by
   unfold wg at k3⊢;have e1:((i+1:Nat):Int)-1-(Aj AW).1=((x:Int)-1-(Aj AW).1)+((i+1:Nat)-x:Int):=by lia
   have e2:((j+1:Nat):Int)-1-(Aj AW).2=((y:Int)-1-(Aj AW).2)+((j+1:Nat)-y:Int):=by lia
   rw[e1,e2,Int.mul_add,Int.mul_add]
   lia
  have:=nQ T a b l3 l4 hW a' A3 (by lia) (by rw[hb];exact hle);exact⟨AW,q,bs,a',b,k1,k2,by lia,by lia,this.2,hr⟩
theorem anY(T:eG f o p W)(h:f7 f o p W Be (aN (i,j)))(g:ij (Dv j)=true):Over f o p W (i:Int) (j:Int) (aN (i,j)):=by
 obtain⟨ws,⟨hw,hW⟩,hm⟩:=h.on;obtain⟨u,v,rfl⟩:=xu hm;cases e:Bq f o p i j with
 |none=>rw[e]at g;cases g
 |some b=>
  rw[e]at g;have g:0<=b:=by simpa[ij]using g
  obtain⟨as,a,k1,k2,k3⟩:=yR e;have hr:Wy Ab (aN (i,j)::v):=hw.right A9;have ws:=a.app hr ⟨k1,k2⟩;have hle:=T _ ws;have cv:=o_ (f:=f) (o:=o) (p:=p) (q:=aN (i,j)) (bs:=v) a.ne (i:Int) (j:Int);have ha:R6 f o p Be v (i:Int) (j:Int)=vl Ab o p (aN (i,j)::v):=by
   unfold R6;have e1:(aN (i,j)).1-(i:Int)=0:=by simp[aN]
   have e2:(aN (i,j)).2-(j:Int)=0:=by simp[aN]
   rw[e1,e2,Int.mul_zero,Int.mul_zero];lia
  have V9:W<=b+vl Ab o p (aN (i,j)::v):=by
   by_cases hu:u=[]
   ·subst hu;simp only[List.nil_append]at hW
    lia
   ·have cu:=o_ (f:=f) (o:=o) (p:=p) (q:=aN (i,j)) (bs:=v) hu (i:Int) (j:Int);have Up:Wy Ab u:=hw.left hu;have hs:we (Aj u) (aN (i,j)):=(Et hw.up).2.2 _ (dz hu) _ (AA);obtain⟨b2,yT,aaI⟩:=yQ (o:=o) (p:=p) Up (i:=i) (j:=j) hs.1 hs.2;rw[e]at yT;cases yT
    lia
  exact⟨as,aN (i,j),v,a,hr,k1,k2,by simp[aN],by simp[aN],by lia,AA⟩
theorem over_over(T:eG f o p W)(h:Over f o p W x y r)(h':Over f o p W x y r'):f7 f o p W r r':=by
 obtain⟨as,q,bs,a,b,l1,l2,l3,l4,hW,hr⟩:=h;obtain⟨AW,q',bs',a',b',k1,k2,k3,k4,acy,OG⟩:=h';have w1:BW f o p W (as++q::bs):=⟨a.app b ⟨by lia,by lia⟩,hW⟩
 have w2:BW f o p W (AW++q'::bs'):=⟨anl b',acy⟩
 by_cases hb:wg f o p as x y<=wg f o p AW x y
 ·have:=nQ T a b l3 l4 hW a' k1 k2 hb;exact .tr (.way (b:=Aj AW) _ this (Cn hr) (CW (dz a'.ne))) (.way _ w2 (CW (dz a'.ne)) (Cn OG))
 ·have:=nQ T a' b' k3 k4 acy a l1 l2 A3;exact .tr (.way (b:=Aj as) _ w1 (Cn hr) (CW (dz a.ne))) (.way _ this (CW (dz a.ne)) (Cn OG))
theorem between(T:eG f o p W){q:Nat×Nat}(w:BW f o p W (u++aN q::aN r::v)):
  (∀x y:Nat,q.1<x->q.2<y->x<=r.1->y<=r.2->Bq f o p x y=some (wg f o p (u++[aN q]) x y))/\dh f o p q.1 q.2=some (Om Ab (u++[aN q]))/\0<=wg f o p (u++[aN q]) r.1 r.2:=by
 obtain⟨w,hW⟩:=w;have e:u++aN q::aN r::v=(u++[aN q])++aN r::v:=AA;rw[e]at w hW;have hl:Wy Ab (u++[aN q]):=w.left A9;have hr:Wy Ab (aN r::v):=w.right A9;have ls:lstP (u++[aN q])=aN q:=bT;have uo:we (aN q) (aN r):=by
  have:=(Et w.up).2.2 _ (dz hl.ne) (aN r) (AA);rw[ls]at this;exact this
 refine⟨λx y h1 h2 h3 h4=>?_,?_,?_⟩
 ·have c1:(Aj (u++[aN q])).1<(x:Int):=by rw[ls];simp[aN];lia
  have c2:(Aj (u++[aN q])).2<(y:Int):=by rw[ls];simp[aN];lia
  obtain⟨b,hb,hle⟩:=pz hl c1 c2;rw[hb]
  congr 1
  obtain⟨as,a,k1,k2,k3⟩:=yR hb;have wa:=a.app hr ⟨by simp[aN];lia,by simp[aN];lia⟩;have:=T _ wa;rw[o_ a.ne (x:Int) (y:Int)]at this;rw[o_ hl.ne (x:Int) (y:Int)]at hW
  lia
 ·obtain⟨b,hb,hle⟩:=yS (o:=o) (p:=p) hl (i:=q.1) (j:=q.2) ls;rw[hb]
  congr 1
  obtain⟨as,a,k1,k2⟩:=nU hb;have wa:=a.app hr (by rw[k1];exact uo);have:=T _ wa;rw[S_ a.ne,k1,show aN (q.1,q.2)=aN q from rfl]at this;rw[S_ hl.ne,ls]at hW
  lia
 ·have:=T _ hr;rw[o_ hl.ne (r.1:Int) (r.2:Int)]at hW;unfold R6 at hW;have e1:(aN r).1-(r.1:Int)=0:=by simp[aN]
  have e2:(aN r).2-(r.2:Int)=0:=by simp[aN]
  rw[e1,e2,Int.mul_zero,Int.mul_zero]at hW
  lia
end
abbrev GS:=(Pr->Pr->Prop)×(Pr->Option Pr)
def AX(s:GS)(c r:Pr):GS:=
 match s.2 c with
 |some r0=>(rQ s.1 r0 r,s.2)
 |none=>(s.1,λx=>if x=c then some r else s.2 x)
section
variable(f:Nat->Nat->Option Int)(o p W:Int)
def Mf(i j:Nat)(s:GS)(r:Pr):GS:=(if dh f o p i j=Bq f o p (i+1) (j+1)then rQ (Me s.1 Be) (aN (i,j)) r else s.1,s.2)
def agm(i j:Nat)(s:GS)(r:Pr):GS:=(Eh f).foldl awD (Nz f s)
def KZ(i j:Nat)(s:GS):GS:=(if dh f o p i j=some W then Me s.1 Be else s.1,s.2)
def Gb(i j:Nat)(s:GS):GS:=
 match s.2 Hd with
 |some r=>Jg (JV f s)
 |none=>JV f s
open Classical in
noncomputable def BF(i j:Nat)(s:GS):GS:=if (HW f s).1 Be (aN (i,j))/\ij (Dv j)=true then AX (HW f s) (aN (i,j)) (aN (i,j))else Gb f o p W i j s
structure iU(s:GS):Prop where
 sy:∀a b,s.1 a b->s.1 b a
 tr:∀a b c,s.1 a b->s.1 b c->s.1 a c
 hg:∀a b,s.1 a b->f7 f o p W a b
 mr:∀c r,s.2 c=some r->s.1 r r/\∃i j:Nat,c=aN (i,j)/\Over f o p W (i:Int) (j:Int) r
end
structure Gw(s s':GS)(N:Pr->Prop)(M:Pr->Prop):Prop where
 e:∀a b,s.1 a b->s'.1 a b
 n:∀a,s'.1 a a->s.1 a a∨N a
 m:∀c r,s.2 c=some r->s'.2 c=some r
 k:∀c r,s'.2 c=some r->s.2 c=some r∨M c
theorem Gw.refl{N:Pr->Prop}:Gw s s N M:=⟨λ_ _ h=>h,λ_ h=> .inl h,λ_ _ h=>h,λ_ _ h=> .inl h⟩
theorem Gw.trans{N:Pr->Prop}(a:Gw s s' N M)(b:Gw s' zU N M):Gw s zU N M:=
 ⟨λx y h=>b.e x y (a.e x y h),λx h=>(b.n x h).elim (a.n x) .inr,λc r h=>b.m c r (a.m c r h),λc r h=>(b.k c r h).elim (a.k c r) .inr⟩
theorem Gw.wide{N:Pr->Prop}(a:Gw s s' N M)(hN:∀x,N x->N' x)(hM:∀x,M x->M' x):Gw s s' N' M':=⟨a.e,λx h=>(a.n x h).imp id (hN x),a.m,λc r h=>(a.k c r h).imp id (hM c)⟩
section
variable{f:Nat->Nat->Option Int}{o p W:Int}{s:GS}
theorem iU.Yl(k:iU f o p W s){a b}(ha:s.1 a a)(hb:s.1 b b)(h:f7 f o p W a b):iU f o p W (rQ s.1 a b,s.2):=by
 have hc:∀c,s.1 c a∨s.1 c b->f7 f o p W c a:=λc h'=>h'.elim (k.hg c a) λz=> .tr (k.hg c b z) h.symm
 refine⟨λx y h=>?_,λx y z h1 h2=>?_,λx y h=>?_,λc r h=>⟨.inl (Ox r).1,(Ox r).2⟩⟩
 ·exact h.imp (k.sy x y) λh=>⟨h.2,h.1⟩
 ·rcases h1 with h1|⟨h1,Pu⟩
  ·rcases h2 with h2|⟨h2,LY⟩
   ·exact .inl (xS h2)
   ·exact .inr ⟨h2.imp (Yq h1) (Yq h1),LY⟩
  ·rcases h2 with h2|⟨h2,LY⟩
   ·exact .inr ⟨h1,Pu.imp (Yq Ο) (Yq Ο)⟩
   ·exact .inr ⟨h1,LY⟩
 ·rcases h with h|⟨h1,h2⟩
  ·exact k.hg x y h
  ·exact .tr (hc x h1) (hc y h2).symm
theorem iU.take(k:iU f o p W s){a}(h:f7 f o p W a a):iU f o p W (Me s.1 a,s.2):=by
 refine⟨λx y h=>?_,λx y z h1 h2=>?_,λx y h'=>?_,λc r h=>⟨.inl (Ox r).1,(Ox r).2⟩⟩
 ·exact h.imp (k.sy x y) λh=>⟨h.2,h.1⟩
 ·rcases h1 with h1|⟨h1,Pu⟩
  ·rcases h2 with h2|⟨h2,LY⟩
   ·exact .inl (xS h2)
   ·subst h2 LY;exact .inl h1
  ·subst h1 Pu;exact h2
 ·rcases h' with h'|⟨h1,h2⟩
  ·exact k.hg x y h'
  ·subst h1 h2;exact h
theorem IA(sy:∀a b,s.1 a b->s.1 b a)(tr:∀a b c,s.1 a b->s.1 b c->s.1 a c){a b}:Gw s (rQ s.1 a b,s.2) (λ_=>False) (λ_=>False):=by
 refine⟨λ_ _ h=> .inl h,λx h=> .inl ?_,λ_ _ h=>h,λ_ _ h=> .inl h⟩;rcases h with h|⟨h,_⟩
 ·exact h
 ·exact h.elim (λz=>xH z) λz=>xH z
theorem iU.mark(T:eG f o p W)(k:iU f o p W s){i j:Nat}(hr:s.1 r r)(ov:Over f o p W (i:Int) (j:Int) r):iU f o p W (LI Be):=by
 unfold AX;cases e:s.2 Be with
 |some r0=>
  obtain⟨h1,i2,j2,h2,h3⟩:=eJ e;have h2:(i:Int)=i2/\(j:Int)=j2:=by simpa[aN]using h2
  rw[<-h2.1,<-h2.2]at h3;exact k.Yl h1 hr (over_over T h3 ov)
 |none=>
  refine⟨k.sy,k.tr,k.hg,λc r' h=>?_⟩;have h:(if c=aN (i,j)then some r else s.2 c)=some r':=h;by_cases e2:c=aN (i,j)
  ·rw[A7 e2]at h;cases h;exact⟨hr,i,j,e2,ov⟩
  ·rw[A6 e2]at h;exact Ox r'
theorem abA(k:iU f o p W s):Gw s (LI c) (λ_=>False) (·=c):=by
 unfold AX;cases e:s.2 c with
 |some r0=>exact(IA k.sy k.tr).wide Kk λ_ h=>h.elim
 |none=>
  refine⟨λ_ _ h=>h,λ_ h=> .inl h,λc' r' h=>?_,λc' r' h=>?_⟩
  ·show(if c'=c then some r else s.2 c')=some r';rw[A6 (λz=>by rw[z,e]at h;cases h)];exact h
  ·have h:(if c'=c then some r else s.2 c')=some r':=h;by_cases e2:c'=c
   ·exact .inr e2
   ·rw[A6 e2]at h;exact .inl h
theorem IB(k:iU f o p W s)(hr:s.1 r r):∃r',(LI c).2 c=some r'/\(LI c).1 r r':=by
 unfold AX;cases e:s.2 c with
 |some r0=>exact⟨r0,e, .inr ⟨.inr hr, .inl (eJ e).1⟩⟩
 |none=>exact⟨r,AA,hr⟩
theorem uV(T:eG f o p W):∀(cs:List Pr)(s:GS),iU f o p W s->s.1 r r->(∀c∈cs,∃i j:Nat,c=aN (i,j)/\Over f o p W (i:Int) (j:Int) r)->
  iU f o p W (Yi s)/\Gw s (Yi s) (λ_=>False) (·∈cs)/\∀c∈cs,∃r',(Yi s).2 c=some r'/\(Yi s).1 r r'
 |[],s,k,_,_=>⟨k, .refl,λc h=>by cases h⟩
 |c::cs,s,k,hr,h=>by
  obtain⟨i,j,rfl,ov⟩:=K' c;have k1:=k.mark T hr ov;have g1:=abA k (c:=aN (i,j)) (r:=r);obtain⟨r',m1,m2⟩:=IB k (c:=aN (i,j)) hr;obtain⟨a1,a2,a3⟩:=uV T cs _ k1 (g1.e _ _ hr) λc hc=>h c (by simp[hc])
  refine⟨a1,(g1.wide Kk λx hx=>?_).trans (a2.wide Kk λx hx=>?_),λc hc=>?_⟩
  ·show x∈_::_;rw[hx];simp
  ·exact Ep hx
  ·rcases List.mem_cons.mp hc with rfl|hc
   ·exact⟨r',a2.m _ _ m1,sW m2⟩
   ·exact a3 c hc
theorem abL(T:eG f o p W){i j}(h:Over f o p W ((i+1:Nat):Int) ((j+1:Nat):Int) r):∀c∈bF f o p i j,∃x y:Nat,c=aN (x,y)/\Over f o p W (x:Int) (y:Int) r:=by
 intro c hc;unfold bF at hc;rcases List.mem_append.mp hc with hc|hc
 ·split at hc
  ·rename_i e
   have:c=aN (i,j+1):=by simpa[aN]using hc
   refine⟨i,j+1,this,w6 T h e⟩;have e1:((i+1:Nat):Int)-(i:Int)=1:=by lia
   have e2:((j+1:Nat):Int)-((j+1:Nat):Int)=0:=by lia
   rw[e1,e2];lia
  ·cases hc
 ·split at hc
  ·rename_i e
   have:c=aN (i+1,j):=by simpa[aN]using hc
   refine⟨i+1,j,this,w6 T h e⟩;have e1:((i+1:Nat):Int)-((i+1:Nat):Int)=0:=by lia
   have e2:((j+1:Nat):Int)-(j:Int)=1:=by lia
   rw[e1,e2];lia
  ·cases hc
theorem aaS(T:eG f o p W)(k:iU f o p W s)(hr:s.1 r r)(ov:Over f o p W ((i+1:Nat):Int) ((j+1:Nat):Int) r):
  iU f o p W (Nz f s)/\Gw s (Nz f s) (·=aN (i,j)) (·∈bF f o p i j)/\(dh f o p i j=Bq f o p (i+1) (j+1)->(Nz f s).1 Be r):=by
 unfold Mf;by_cases e:dh f o p i j=Bq f o p (i+1) (j+1)
 ·rw[A7 e];have h:=aty T ov e;have k1:=k.take h.left;have k2:=k1.Yl (a:=aN (i,j)) (b:=r) (.inr ⟨rfl,rfl⟩) (.inl hr) h;refine⟨k2,⟨λa b h=> .inl (.inl h),λa h=>?_,λ_ _ h=>h,λ_ _ h=> .inl h⟩,λ_=> .inr ⟨.inl (.inr ⟨rfl,rfl⟩), .inr (.inl hr)⟩⟩;rcases(IA (s:=(Me s.1 Be,s.2)) k1.sy k1.tr).n a h with h|h
  ·exact h.imp id And.left
  ·exact h.elim
 ·rw[A6 e];exact⟨⟨k.sy,k.tr,k.hg,k.mr⟩, .refl,λz=>BO z e⟩
theorem atg(T:eG f o p W)(k:iU f o p W s){i j}(hr:s.1 r r)(ov:Over f o p W ((i+1:Nat):Int) ((j+1:Nat):Int) r):
  iU f o p W (Jg s)/\Gw s (Jg s) (·=aN (i,j)) (·∈bF f o p i j)/\(dh f o p i j=Bq f o p (i+1) (j+1)->(Jg s).1 Be r)/\∀c∈bF f o p i j,∃r',(Jg s).2 c=some r'/\(Jg s).1 r r':=by
 obtain⟨b1,b2,b3⟩:=aaS T k hr ov;obtain⟨a1,a2,a3⟩:=uV T (Eh f) _ b1 (b2.e _ _ hr) (abL T ov);exact⟨a1,b2.trans (a2.wide awl λ_ h=>h),λe=>sW (b3 e),a3⟩
theorem aaz(k:iU f o p W s)(i j:_):iU f o p W (JV f s)/\Gw s (JV f s) (·=aN (i,j)) (λ_=>False)/\(dh f o p i j=some W->(JV f s).1 Be (aN (i,j))):=by
 unfold KZ;by_cases e:dh f o p i j=some W
 ·rw[A7 e];exact⟨k.take (ajs e),⟨λ_ _ h=> .inl h,λ_ h=>h.imp id And.left,λ_ _ h=>h,λ_ _ h=> .inl h⟩,λ_=> .inr ⟨rfl,rfl⟩⟩
 ·rw[A6 e];exact⟨⟨k.sy,k.tr,k.hg,k.mr⟩, .refl,λz=>BO z e⟩
def OI(f:Nat->Nat->Option Int)(o p:Int)(i j:Nat)(c:Pr):Prop:=c∈bF f o p i j∨c=aN (i,j)
theorem IE(T:eG f o p W)(k:iU f o p W s)(i j:_):iU f o p W (HW f s)/\Gw s (HW f s) (·=aN (i,j)) (OI f o p i j)/\(dh f o p i j=some W->(HW f s).1 Be (aN (i,j)))/\∀r,s.2 (aN (i+1,j+1))=some r->
  (dh f o p i j=Bq f o p (i+1) (j+1)->(HW f s).1 Be r)/\∀c∈bF f o p i j,∃r',(HW f s).2 c=some r'/\(HW f s).1 r r':=by
 obtain⟨k1,g1,e1⟩:=aaz k i j;unfold Gb;cases e:s.2 Hd with
 |none=>exact⟨k1,g1.wide Kk λ_ h=>h.elim,e1,λr h=>by cases h⟩
 |some r=>
  obtain⟨h1,i2,j2,h2,h3⟩:=eJ e;have h2:((i+1:Nat):Int)=i2/\((j+1:Nat):Int)=j2:=by simpa[aN]using h2
  rw[<-h2.1,<-h2.2]at h3;obtain⟨a1,a2,a3,a4⟩:=atg T k1 (g1.e _ _ h1) h3;refine⟨a1,(g1.wide Kk λ_ h=>h.elim).trans (a2.wide Kk λ_ h=> .inl h),λz=>sW (e1 z),λr' h=>?_⟩;cases h;exact⟨a3,a4⟩
theorem anf(T:eG f o p W)(k:iU f o p W s)(i j:_):iU f o p W (FT s)/\Gw s (FT s) (·=aN (i,j)) (OI f o p i j)/\(dh f o p i j=some W->(FT s).1 Be (aN (i,j)))/\(∀r,s.2 (aN (i+1,j+1))=some r->
  (dh f o p i j=Bq f o p (i+1) (j+1)->(FT s).1 Be r)/\∀c∈bF f o p i j,∃r',(FT s).2 c=some r'/\(FT s).1 r r')/\
  ((FT s).1 Be (aN (i,j))->ij (Dv j)=true->∃r,(FT s).2 (aN (i,j))=some r/\(FT s).1 Be r):=by
 obtain⟨k1,g1,e1,o1⟩:=IE T k i j;unfold BF;split
 ·rename_i h
  have k2:=k1.mark T h.1 (anY T (k1.hg _ _ h.1) h.2);have g2:=abA k1 (c:=aN (i,j)) (r:=aN (i,j));refine⟨k2,g1.trans (g2.wide awl λ_ h=> .inr h),λz=>nh (e1 z),λr hr=>?_,λ_ _=>IB k1 h.1⟩;obtain⟨a1,a2⟩:=o1 r hr;refine⟨λz=>nh (a1 z),λc hc=>?_⟩;obtain⟨r',b1,b2⟩:=a2 c hc;exact⟨r',g2.m _ _ b1,nh b2⟩
 ·rename_i h
  exact⟨k1,g1,e1,o1,λh1 h2=>BO ⟨h1,h2⟩ h⟩
end
structure Vd(f:Nat->Nat->Option Int)(o p W:Int)(V:Nat->Nat->Prop)(s:GS):Prop where
 ok:iU f o p W s
 vis:∀a,s.1 a a->∃i j:Nat,a=aN (i,j)/\V i j
 en:∀i j,V i j->dh f o p i j=some W->s.1 Be (aN (i,j))
 on:∀i j,V i j->s.1 Be (aN (i,j))->ij (Dv j)=true->∃r,s.2 (aN (i,j))=some r/\s.1 Be r
 ov:∀i j r,V i j->s.2 (aN (i+1,j+1))=some r->(dh f o p i j=Bq f o p (i+1) (j+1)->s.1 Be r)/\∀c∈bF f o p i j,∃r',s.2 c=some r'/\s.1 r r'
theorem jk{a b d:Nat}(h:aN (a,b)=aN (c,d)):a=c/\b=d:=by
 have h:(a:Int)=c/\(b:Int)=d:=by simpa[aN]using h
 lia
theorem avE{p:Int}{a b:Nat}(h:OI f o p i j (aN (a+1,b+1))):(a+1=i/\b+1=j)∨(a+1=i/\b=j)∨(a=i/\b+1=j):=by
 rcases h with h|h
 ·unfold bF at h;rcases List.mem_append.mp h with h|h
  ·split at h
   ·have:aN (a+1,b+1)=aN (i,j+1):=by simpa[aN]using h
    have:=jk this
    lia
   ·cases h
  ·split at h
   ·have:aN (a+1,b+1)=aN (i+1,j):=by simpa[aN]using h
    have:=jk this
    lia
   ·cases h
 ·have:=jk h
  lia
def Vb(n m i j:Nat)(a b:Nat):Prop:=a<n/\b<m/\(i<a∨(i=a/\j<=b))
theorem Vd.start (f) (o p W:_) (n m:_):Vd f o p W (Gj n 0) (λ_ _=>False,λ_=>none):=by
 have no:∀a b,¬Vb n m n 0 a b:=λa b ⟨h1,_,h2⟩=>by lia
 exact⟨⟨λ_ _ h=>h.elim,λ_ _ _ h=>h.elim,λ_ _ h=>h.elim,λ_ _ h=>(by cases h)⟩,λ_ h=>h.elim,λi j h=>ZR h,λi j h=>ZR h,λi j r h=>ZR h⟩
theorem Vd.turn{p:Int}(v:Vd f o p W (Gj (i+1) 0) s):Vd f o p W (Gj i m) s:=by
 have e:Vb n m (i+1) 0=Vb n m i m:=by
  funext a b
  simp only[Vb,eq_iff_iff]
  lia
 rw[<-e];exact v
theorem Vd.next{p:Int}(T:eG f o p W)(hi:i<n)(hj:j<m)(v:Vd f o p W (Gj i (j+1)) s):Vd f o p W (Gj i j) (FT s):=by
 obtain⟨k,g,e,ov,on⟩:=anf T v.ok i j;have cut:∀a b,Vb n m i j a b->(a=i/\b=j)∨Vb n m i (j+1) a b:=λa b h=>by
  unfold Vb at h⊢
  lia
 have old:∀a b r,Vb n m i j a b->(FT s).2 (aN (a+1,b+1))=some r->s.2 (aN (a+1,b+1))=some r:=λa b r h hr=>by
  rcases g.k _ _ hr with z|z
  ·exact z
  ·have:=avE z;unfold Vb at h
   lia
 refine⟨k,λa ha=>?_,λa b h he=>?_,λa b h h1 h2=>?_,λa b r h hr=>?_⟩
 ·rcases g.n a ha with z|z
  ·obtain⟨x,y,h1,h2⟩:=v.vis a z;exact⟨x,y,h1,by unfold Vb at h2⊢;lia⟩
  ·exact⟨i,j,z,by unfold Vb;lia⟩
 ·rcases cut a b h with⟨rfl,rfl⟩|h'
  ·exact e he
  ·exact U5 (v.en a b h' he)
 ·rcases cut a b h with⟨rfl,rfl⟩|h'
  ·exact on h1 h2
  ·have hs:s.1 (aN (a,b)) (aN (a,b)):=by
    rcases g.n _ h1 with z|z
    ·exact z
    ·have:=jk z;unfold Vb at h'
     lia
   obtain⟨r,z1,z2⟩:=v.on a b h' hs h2;exact⟨r,g.m _ _ z1,U5 z2⟩
 ·have OG:=old a b r h hr;rcases cut a b h with⟨rfl,rfl⟩|h'
  ·exact ov r OG
  ·obtain⟨z1,z2⟩:=v.ov a b r h' OG;refine⟨λz=>U5 (z1 z),λc hc=>?_⟩;obtain⟨r',y1,y2⟩:=z2 c hc;exact⟨r',g.m _ _ y1,U5 y2⟩
theorem kF(t:yF f n m)(w:Wy Ab ps){a}(h:a∈ps):∃i j:Nat,a=aN (i,j)/\i<n/\j<m:=by
 have hs:=Gv a h;obtain⟨i,j,rfl⟩:=qm hs;rw[gy]at hs;obtain⟨h1,h2⟩:=t i j hs;exact⟨i,j,rfl,h1,h2⟩
theorem Vd.step{p:Int}(T:eG f o p W)(v:Vd f o p W YC s){q:Nat×Nat}(w:BW f o p W (us++aN q::aN r::vs))(hr:r.1<n)(BG:r.2<m)(hq:q.1<r.1)(IG:q.2<r.2)(hE:s.1 (aN r) (aN r)):s.1 (aN q) (aN r):=by
 obtain⟨b1,b2,b3⟩:=between T w;have ok:=v.ok;have V0:∀a b,a<n->b<m->Vb n m 0 0 a b:=λa b h1 h2=>⟨h1,h2,by lia⟩
 have top:=b1 r.1 r.2 hq IG Bj (Nat.le_refl _);obtain⟨r0,m0,e0⟩:=v.on r.1 r.2 (V0 _ _ hr BG) hE (by rw[top];simpa[ij]using b3);have brx:∀x y:Nat,wg f o p (us++[aN q]) (x:Int) (y:Int)-o=wg f o p (us++[aN q]) ((x+1:Nat):Int) (y:Int):=λx y=>by
  unfold wg;have e1:((x+1:Nat):Int)-1-(Aj (us++[aN q])).1=((x:Int)-1-(Aj (us++[aN q])).1)+1:=by lia
  rw[e1,Int.mul_add];lia
 have bry:∀x y:Nat,wg f o p (us++[aN q]) (x:Int) (y:Int)-p=wg f o p (us++[aN q]) (x:Int) ((y+1:Nat):Int):=λx y=>by
  unfold wg;have e1:((y+1:Nat):Int)-1-(Aj (us++[aN q])).2=((y:Int)-1-(Aj (us++[aN q])).2)+1:=by lia
  rw[e1,Int.mul_add];lia
 have go:∀d x y:Nat,(r.1-x)+(r.2-y)=d->q.1<x->q.2<y->x<=r.1->y<=r.2->∃r',s.2 (aN (x,y))=some r'/\s.1 (aN r) r':=by
  intro d
  induction d with
  |zero=>
   intro x y hd h1 h2 h3 h4;have:x=r.1:=by lia
   have:y=r.2:=by lia
   subst x y;exact⟨r0,m0,e0⟩
  |succ d ih=>
   intro x y hd h1 h2 h3 h4;by_cases hx:x<r.1
   ·obtain⟨r1,m1,e1⟩:=ih (x+1) y A3 (by lia) h2 A3 h4;obtain⟨y,rfl⟩:∃y',y=y'+1:=⟨y-1,by lia⟩
    obtain⟨_,z⟩:=pI x y;have hc:aN (x,y+1)∈bF f o p x y:=by
     unfold bF;refine List.mem_append_left _ ?_;rw[if_pos]
     ·simp[aN]
     ·rw[b1 x (y+1) h1 h2 h3 h4,b1 (x+1) (y+1) (by lia) h2 A3 h4];simp only[bL];rw[brx]
    obtain⟨r2,m2,e2⟩:=z _ hc;exact⟨r2,m2,RE e1 e2⟩
   ·obtain⟨r1,m1,e1⟩:=ih x (y+1) (by lia) h1 A3 h3 A3;obtain⟨x,rfl⟩:∃x',x=x'+1:=⟨x-1,by lia⟩
    obtain⟨_,z⟩:=pI x y;have hc:aN (x+1,y)∈bF f o p x y:=by
     unfold bF;refine List.mem_append_right _ ?_;rw[if_pos]
     ·simp[aN]
     ·rw[b1 (x+1) y h1 h2 h3 h4,b1 (x+1) (y+1) h1 A3 h3 A3];simp only[bL];rw[bry]
    obtain⟨r2,m2,e2⟩:=z _ hc;exact⟨r2,m2,RE e1 e2⟩
 obtain⟨r1,m1,e1⟩:=go _ (q.1+1) (q.2+1) rfl (by lia) (by lia) (by lia) (by lia);obtain⟨z,_⟩:=pI q.1 q.2;have:=z (by
  rw[b2,b1 (q.1+1) (q.2+1) (by lia) (by lia) (by lia) (by lia)]
  congr 1
  unfold wg;rw[bT];have z1:((q.1+1:Nat):Int)-1-(aN q).1=0:=by show((q.1+1:Nat):Int)-1-(q.1:Int)=0;lia
  have z2:((q.2+1:Nat):Int)-1-(aN q).2=0:=by show((q.2+1:Nat):Int)-1-(q.2:Int)=0;lia
  rw[z1,z2,Int.mul_zero,Int.mul_zero];lia)
 exact RE this (Zu e1)
theorem Vd.all{p:Int}(T:eG f o p W)(t:yF f n m)(v:Vd f o p W YC s){ws}(w:BW f o p W ws):
  ∀(vs us:List Pr),ws=us++vs->vs≠[]->∀a∈vs,s.1 a (j5 vs)
 |[],_,_,h=>EV h
 |[l],us,e,_=>λa ha=>by
  have ha:a=l:=by simpa using ha
  subst ha;show s.1 a a;obtain⟨i,j,rfl,hi,hj⟩:=kF t w.1 (a:=a) (by rw[e];simp);have hl:lstP ws=aN (i,j):=by rw[e];exact bT
  obtain⟨b,hb,hle⟩:=qU w.1;obtain⟨as,a1,a2,a3⟩:=nU hb;have:=T _ a1;have hW:=w.2;exact v.en i j ⟨hi,hj,by lia⟩ (by rw[hb];congr 1;lia)
 |q::r::vs,us,e,_=>λa ha=>by
  have ih:=Vd.all T t v w (r::vs) (us++[q]) (by rw[e];simp) (AA);have PK:s.1 r r:=ih r A9;have ok:=v.ok;obtain⟨i,j,hq,hi,hj⟩:=kF t w.1 (a:=q) (by rw[e];simp);obtain⟨x,y,hr,hx,hy⟩:=kF t w.1 (a:=r) (by rw[e];simp);have uo:we q r:=by
   have:=w.1.up;rw[e]at this;exact(NR (Et this).2.1).1 r A9
  rw[hq,hr]at uo;have h1:(i:Int)<x:=uo.1;have h2:(j:Int)<y:=uo.2;rw[e,hq,hr]at w;have key:=v.step T w (q:=(i,j)) (r:=(x,y)) hx hy (by show i<x;lia) (by show j<y;lia) (by rw[<-hr];exact PK);rw[<-hq,<-hr]at key;show s.1 a q;rcases List.mem_cons.mp ha with rfl|ha
  ·exact RE key (Zu key)
  ·exact RE (ih a ha) (Zu key)
theorem Vd.Fu{p:Int}(T:eG f o p W)(t:yF f n m)(v:Vd f o p W YC s)(a b:_):s.1 a b↔f7 f o p W a b:=by
 refine⟨v.ok.hg a b,λh=>?_⟩
 induction h with
 |way ps w h1 h2=>
  have k:=Vd.all T t v w ps [] rfl w.1.ne;exact v.ok.tr _ _ _ (k _ h1) (v.ok.sy _ _ (k _ h2))
 |tr _ _ i1 i2=>exact v.ok.tr _ _ _ i1 i2
theorem Told.iff(t:Told E gs)(h:∀a b,E a b↔E' a b):Told E' gs:=
 ⟨t.uO,t.ne,λps hp a ha b=>(t.cls ps hp a ha b).trans (h a b),λa ha=>t.all a ((h a a).mpr ha),t.apart⟩
def NT(H:Hp)(a:Addr):Prop:=∃o,H a=some o/\∀v,o≠ .tup v
theorem NT.same{a}(h:NT H a)(s:av H H'):NT H' a:=let ⟨o,h1,h2⟩:=h;⟨o,De h1,h2⟩
theorem qu.cT(u:qu S H S' H')(h:∀a,S a->NT H a):eC H H':=λt v e=>u.keep t _ (λz=>by
 obtain⟨o,h1,h2⟩:=h t z;rw[e]at h1;cases h1;exact h2 v rfl) e
theorem qu.out(u:qu S H S' H'){a}(h:¬S a)(e:H a=some o):¬S' a:=λz=>by
 rcases u.grow a z with z|z
 ·exact h z
 ·rw[e]at z;cases z
theorem kE.nt{B}(G:kE H C g S E B):kE H C g (λa=>S a/\NT H a) E B:=by
 obtain⟨dg,dl,dm,kl,km,ld,mm,a1,a2,D,a4⟩:=G;refine⟨dg,dl,dm,kl,km,ld,mm,a1,λz=>a2 z.1,⟨D.hl,D.hm,⟨D.sl,_,D.hl,λv=>(AA)⟩,⟨D.sm,_,D.hm,λv=>(AA)⟩,D.ne,D.lv,λp=>?_,D.inj,D.key,D.Eb,D.ms,D.ml,D.self⟩,a4⟩;have:=JB p;cases e:mm p with
 |none=>rw[e]at this;exact this
 |some ms=>
  rw[e]at this;obtain⟨a,us,h1,h2,h3,h4⟩:=this;exact⟨a,us,h1,h2,h3,h4,_,h2,λv=>(AA)⟩
structure Mh(K:W.Frag)(C:Addr):Prop where
 cl:x9 K C
 uW:cq K C "trails"
 worth:cq K C "worth"
 groups:cq K C "groups"
 marks:cq K C "marks"
def kG(tr:Addr)(W:Int)(g dk:Addr):List (Str×V):=[("trails", .ref tr),("worth", .int W),("groups", .ref g),("marks", .ref dk)]
theorem afy (a) (W) (b c:_):(kG a W b c).lookup ("trails":Str)=some (C_ a):=by kernel_rfl
theorem aex (a) (W) (b c:_):(kG a W b c).lookup ("worth":Str)=some (Io W):=by kernel_rfl
theorem anz (a) (W) (b c:_):(kG a W b c).lookup ("groups":Str)=some (C_ b):=by kernel_rfl
theorem aqe (a) (W) (b c:_):(kG a W b c).lookup ("marks":Str)=some (C_ c):=by kernel_rfl
theorem Ee (a) (W) (b c:_):(kG a W b c).lookup ("mark":Str)=none:=by kernel_rfl
theorem agM (a) (W) (b c:_):(kG a W b c).lookup ("go_over":Str)=none:=by kernel_rfl
theorem aut (a) (W) (b c:_):(kG a W b c).lookup ("visit":Str)=none:=by kernel_rfl
theorem apn (a) (W) (b c:_):bE "marks" (.ref c) (bE "groups" (.ref b) (bE "worth" (.int W) (xQ (.ref a))))=kG a W b c:=by kernel_rfl
structure OL(H:Hp)(C CG x tr:Addr)(W:Int)(S:Addr->Prop)(s:GS)(B M:Nat)(dx g dk:Addr)(km:List (List Key×V))(S1:Addr->Prop):Prop where
 ob:H x=some (.ins C dx zg)
 gr:kE H CG g S1 s.1 B
 hk:H dk=some (.dT km)
 mv:∀c,OE H (bH km (bf c)) (s.2 c)
 len:km.length<=M
 sS:∀a,S a↔S1 a∨a=dk
 Eb:¬S1 dk
 nx:¬S x
 ng:¬S g
 nt:∀a,S a->NT H a
def iV(H:Hp)(C CG x tr:Addr)(W:Int)(S:Addr->Prop)(s:GS)(B M:Nat):Prop:=∃dx g dk km S1,OL H C CG x tr W S s B M dx g dk km S1
theorem iV.nt{B:Nat}(G:iV H C CG x tr W S s B M):∀a,S a->NT H a:=let ⟨_,_,_,_,_,D⟩:=G;D.nt
theorem iV.same{B:Nat}(G:iV H C CG x tr W S s B M)(t:av H H'):iV H' C CG x tr W S s B M:=by
 obtain⟨dx,g,dk,km,S1,D⟩:=G;exact⟨dx,g,dk,km,S1,t _ _ D.ob,D.gr.same t,t _ _ D.hk,λc=>(JB c).cT (Ex t),D.len,D.sS,D.Eb,D.nx,D.ng,λa h=>(D.nt a h).same t⟩
theorem iV.out{B:Nat}(G:iV H C CG x tr W S s B M){a}(h:H a=none):¬S a:=λz=>by
 obtain⟨o,e,_⟩:=G.nt a z;rw[h]at e;cases e
theorem iV.cast{B:Nat}(G:iV H C CG x tr W S s B M)(h:s=s')(hB:B<=B')(hM:M<=M'):iV H C CG x tr W S s' B' M':=by
 subst h;obtain⟨dx,g,dk,km,S1,D⟩:=G;exact⟨dx,g,dk,km,S1,D.ob,D.gr.iff (λ_ _=>Iff.rfl) hB,D.hk,D.mv,by have:=D.len;lia,D.sS,D.Eb,D.nx,D.ng,D.nt⟩
section
variable{H H':Hp}{C CG x tr dx g dk:Addr}{W:Int}{S S1 OM:Addr->Prop}{s:GS}{B M B':Nat}{km:List (List Key×V)}
theorem OL.Uq(D:OL H C CG x tr W S s B M dx g dk km S1)(u:qu S1 H OM H')(G:kE H' CG g OM E' B'):∃S' S2,qu S H S' H'/\OL H' C CG x tr W S' (E',s.2) B' M dx g dk km S2:=by
 have s1:∀a,S1 a->S a:=λa h=>(D.sS a).mpr (.inl h)
 have nt1:∀a,S1 a->NT H a:=λa h=>D.nt a (s1 a h)
 have T:=u.cT nt1;have Hw:=u.keep dk _ D.Eb D.hk;obtain⟨dg,dl,dm,kl,K1,ld,mm,og,_⟩:=id D.gr;have gone:∀{a o},¬S a->H a=some o->a≠dk->¬((OM a/\NT H' a)∨a=dk):=λ{a o} h1 h2 h3 z=>by
  rcases z with z|z
  ·exact u.out (λy=>h1 (s1 _ y)) h2 z.1
  ·exact h3 z
 have CD:S dk:=(D.sS dk).mpr (.inr rfl);refine⟨λa=>(OM a/\NT H' a)∨a=dk,λa=>OM a/\NT H' a,⟨λa h=>?_,λa o h e=>u.keep a o (λz=>h (s1 a z)) e⟩,⟨u.keep x _ (λz=>D.nx (s1 _ z)) D.ob,G.nt,Hw,λc=>(JB c).cT T,D.len,λa=>Iff.rfl,λz=>u.out D.Eb D.hk z.1,gone D.nx D.ob (λz=>D.nx (by rw[z];exact CD)),gone D.ng og (λz=>D.ng (by rw[z];exact CD)),λa h=>?_⟩⟩
 ·rcases h with h|h
  ·exact(u.grow a h.1).imp (s1 a) id
  ·exact .inl (by rw[h];exact CD)
 ·rcases h with h|h
  ·exact h.2
  ·exact⟨_,by rw[h];exact Hw,λv=>(AA)⟩
theorem OL.put(D:OL H C CG x tr W S s B M dx g dk km S1){t}(ht:H t=some (.tup Gi)):qu S H S (qW dk)/\OL (qW dk) C CG x tr W S (s.1,λy=>if y=c then some r else s.2 y) B (M+1) dx g dk (vL km (bf c)) S1:=by
 have CD:S dk:=(D.sS dk).mpr (.inr rfl);have nx:x≠dk:=λz=>D.nx (by rw[z];exact CD)
 have ng:g≠dk:=λz=>D.ng (by rw[z];exact CD)
 have T:eC H (qW dk):=λb v hb=>by
  rw[aq (λz=>by rw[z,D.hk]at hb;cases hb)];exact hb
 refine⟨.put CD,⟨by rw[aq nx];exact D.ob,D.gr.keep (λa o h e=>by rw[aq (λz=>D.Eb (by rw[<-z];exact h))];exact e) T (λo e=>by rw[aq ng];exact e),ae,λy=>?_,RJ (by have:=D.len;lia),D.sS,D.Eb,D.nx,D.ng,λa h=>?_⟩⟩
 ·show OE _ _ (if y=c then some r else s.2 y);rw[jH];by_cases e:y=c
  ·rw[A7 (by rw[e]),A7 e];exact⟨t,rfl,N2 ht⟩
  ·rw[A6 Jh,A6 e];exact(JB y).cT T
 ·by_cases e:a=dk
  ·exact⟨_,by rw[e];exact ae,λv=>(AA)⟩
  ·obtain⟨o,h1,h2⟩:=D.nt a h;exact⟨o,by rw[aq e];exact h1,h2⟩
end
structure Base(H0 H:Hp)(S:Addr->Prop):Prop where
 same:av H0 H
 free:∀a,S a->H0 a=none
theorem Base.ups(b:Base H0 H S)(u:qu S H S' H'):Base H0 H' S':=by
 refine⟨λa o h=>u.keep a o (λz=>by rw[b.free a z]at h;cases h) (b.same a o h),λa h=>?_⟩;rcases u.grow a h with z|z
 ·exact b.free a z
 ·exact b.same.free z
theorem Base.more(b:Base H0 H S)(s:av H H'):Base H0 H' S:=⟨b.same.trans s,b.free⟩
inductive rR(C CG:Addr)(vs:List V)(H:Hp)(Q:VK)(u3:XK):Prop
 |mk (x dx tr:_) (W) (_:vs=[.ref x, .ref tr, .int W]) (_:H x=some (.ins C dx [])) (_:∀H' S,SameBut x H H'->(∀a,S a->H a=none)->iV H' C CG x tr W S (λ_ _=>False,λ_=>none) 0 0->Q .de H'):rR C CG vs H Q u3
inductive uX(C CG:Addr)(vs:List V)(H:Hp)(Q:VK)(u3:XK):Prop
 |mk (x tc tp tr:_) (W) (c r:_) (S) (s) (B M:_) (_:vs=[.ref x, .ref tc, .ref tp]) (_:iV H C CG x tr W S s B M) (_:H tc=some (.tup (kM c))) (_:H tp=some (.tup Gi)) (_:s.1 r r) (_:∀r0,s.2 c=some r0->s.1 r0 r0) (_:B<=10000) (_:M<=10000) (_:∀H' S',qu S H S' H'->iV H' C CG x tr W S' (LI c) B (M+1)->Q .de H'):uX C CG vs H Q u3
inductive uY(C CG CT:Addr)(vs:List V)(H:Hp)(Q:VK)(u3:XK):Prop
 |mk (x tc tp tr dt e b:_) (es bs:_) (f) (o p:_) (n m:_) (W) (i j:_) (r) (S) (s) (B M:_) (H0) (_:vs=[.ref x, .ref tc, .ref tp]) (_:iV H C CG x tr W S s B M) (_:rO H0 CT tr dt e b es bs f o p n m) (_:Base H0 H S) (_:H tc=some (.tup avB)) (_:H tp=some (.tup zm)) (_:i<n) (_:j<m) (_:eG f o p W) (_:iU f o p W s) (_:s.2 (aN (i+1,j+1))=some r) (_:B<10000) (_:M+2<=10000)
  (_:∀H' S',qu S H S' H'->iV H' C CG x tr W S' (Jg s) (B+1) (M+2)->Q .de H'):uY C CG CT vs H Q u3
inductive rS(C CG CT:Addr)(vs:List V)(H:Hp)(Q:VK)(u3:XK):Prop
 |mk (x tr dt e b:_) (es bs:_) (f) (o p:_) (n m:_) (W) (i j:Nat) (S) (s) (B M:_) (H0) (_:vs=[.ref x, .int i, .int j]) (_:iV H C CG x tr W S s B M) (_:rO H0 CT tr dt e b es bs f o p n m) (_:Base H0 H S) (_:i<n) (_:j<m) (_:n<=1000) (_:m<=1000) (_:eG f o p W) (_:iU f o p W s) (_:B+2<=10000) (_:M+3<=10000)
  (_:∀H' S',qu S H S' H'->iV H' C CG x tr W S' (FT s) (B+2) (M+3)->Q .de H'):rS C CG CT vs H Q u3
inductive CH(CT:Addr)(vs:List V)(H:Hp)(Q:VK)(u3:XK):Prop
 |mk (tr dt e b:_) (es bs:_) (f) (o p:_) (n m:_) (W) (_:vs=[.ref tr, .int W]) (_:rO H CT tr dt e b es bs f o p n m) (_:yF f n m) (_:n*m<=3000) (_:n<=1000) (_:m<=1000) (_:eG f o p W)
  (_:∀H' r us gs,av H H'->H r=none->H' r=some (.lst us)->gQ H' us gs->(∀(k:Nat) a,us[k]?=some (.ref a)->H a=none)->Told (f7 f o p W) gs->Q (.ref r) H'):CH CT vs H Q u3
structure Fd where
 worth:Int
 way:List Pr
 row:List Int
 pairs:List Pr
def AY(g:Pr->Option Int)(o p:Int)(ps:List Pr):List Int:=(B5 ps.length).map λk=>Om g (ps.take (k+1))
theorem ahm (g) (o p:_) (ps) (q):AY g o p (ps++[q])=AY g o p ps++[Om g (ps++[q])]:=by
 unfold AY;rw[List.length_append,List.length_singleton,List.range_succ,List.map_append]
 congr 1
 ·apply List.map_congr_left;intro k hk;have:k<ps.length:=by simpa using hk
  rw[List.take_append_of_le_length A3]
 ·simp;rw[List.take_of_length_le A9]
structure ON(f:Nat->Nat->Option Int)(o p W:Int)(d:Fd):Prop where
 worth:d.worth=W
 way:BW f o p W d.way
 row:d.row=AY Ab o p d.way
 sub:∀q∈d.way,q∈d.pairs
def jL(f:Nat->Nat->Option Int)(ps:List Pr):Nat->Nat->Option Int:=λi j=>if aN (i,j)∈ps then none else f i j
def Stop(f:Nat->Nat->Option Int)(o p least:Int):Prop:=∀ps,Wy Ab ps->vl Ab o p ps<least
structure gf(f:Nat->Nat->Option Int)(o p least W:Int)(gs:List (List Pr))(ds:List Fd):Prop where
 top:eG f o p W
 ex:∃ps,BW f o p W ps
 least:least<=W
 told:Told (f7 f o p W) gs
 Jr:ds.map Fd.pairs=gs
 ok:∀d∈ds,ON f o p W d
inductive Reach(f0:Nat->Nat->Option Int)(o p least:Int):List Fd->(Nat->Nat->Option Int)->Prop
 |start:Reach f0 o p least [] f0
 |round {done:List Fd} {f:Nat->Nat->Option Int} {W:Int} {gs:List (List Pr)} {ds:List Fd} (_:Reach f0 o p least done f) (_:gf f o p least W gs ds):Reach f0 o p least (done++ds) (nE f)
theorem aji(t:yF f n m) (ps):yF R8 n m:=λi j h=>t i j (by
 unfold jL at h;split at h
 ·cases h
 ·exact h)
theorem Reach.WG{p:Int}(t:yF f0 n m)(r:Reach f0 o p least ds f):yF f n m:=by
 induction r with
 |start=>exact t
 |round _ _ ih=>exact aji ih _
theorem lL (f) (ps) (q):lf R8 q=if q∈ps then none else lf f q:=by
 unfold lf jL;by_cases h:0<=q.1/\0<=q.2
 ·rw[A7 h,A7 h];have:aN (q.1.toNat,q.2.toNat)=q:=Prod.ext (by simp[aN];lia) (by simp[aN];lia);rw[this]
 ·rw[A6 h,A6 h];split<;>rfl
theorem f7.open{p:Int}{a b}(h:f7 f o p W a b):(Hl a).isSome=true:=by
 obtain⟨ps,⟨w,_⟩,hm⟩:=h.on;exact Gv a hm
theorem Told.mem(t:Told E gs)(h:ps∈gs){a}(ha:a∈ps):E a a:=(t.cls ps h a ha a).mp ha
structure Apart(f0 f:Nat->Nat->Option Int)(ds:List Fd):Prop where
 sub:∀q,(Hl q).isSome=true->lf f q=lf f0 q
 shut:∀d∈ds,∀q∈d.pairs,lf f q=none/\(lf f0 q).isSome=true
 ap:ds.Pairwise λa b=>∀q∈a.pairs,q∉b.pairs
 uO:∀d∈ds,d.pairs.Pairwise (λp q=>kW p q=true)/\d.pairs≠[]
 gone:∀q,lf f q=none->(lf f0 q).isSome=true->∃d∈ds,q∈d.pairs
theorem Reach.apart{p:Int}(r:Reach f0 o p least ds f):Apart f0 f ds:=by
 induction r with
 |start=>exact⟨λ_ _=>rfl,λd h=>(by cases h), .nil,λd h=>(by cases h),λq h1 h2=>by rw[h1]at h2;cases h2⟩
 |@round done f W gs ds r R ih=>
  have mem:∀d∈ds,d.pairs∈gs:=λd h=>by rw[<-R.Jr];exact EY ⟨d,h,rfl⟩
  have op:∀d∈ds,∀q∈d.pairs,(Hl q).isSome=true:=λd h q hq=>(Q6 (mem d h) hq).open
  refine⟨λq h=>?_,λd h q hq=>?_,?_,λd h=>?_,λq h1 h2=>?_⟩
  ·rw[lL]at h⊢;split at h
   ·cases h
   ·rename_i hn
    rw[A6 hn];exact ih.sub q h
  ·rw[lL];rcases List.mem_append.mp h with h|h
   ·obtain⟨h1,h2⟩:=ih.shut d h q hq;exact⟨by split;rfl;exact h1,h2⟩
   ·rw[A7 (fS ⟨_,mem d h,hq⟩)];have:=op d h q hq;exact⟨rfl,by rw[<-ih.sub q this];exact this⟩
  ·refine List.pairwise_append.mpr ⟨ih.ap,?_,λa ha b hb q hq IG=>?_⟩
   ·have:=R.told.apart;rw[<-R.Jr,List.pairwise_map]at this;exact this
   ·have h1:=(ih.shut a ha q hq).1;have h2:=op b hb q IG;rw[h1]at h2;cases h2
  ·rcases List.mem_append.mp h with h|h
   ·exact ih.uO d h
   ·exact⟨R.told.uO _ (mem d h),R.told.ne _ (mem d h)⟩
  ·rw[lL]at h1;by_cases hm:q∈gs.flatten
   ·obtain⟨ps,F_,hq⟩:=List.mem_flatten.mp hm;rw[<-R.Jr]at F_;obtain⟨d,hd,rfl⟩:=E4 F_;exact⟨d,Cn hd,hq⟩
   ·rw[A6 hm]at h1;obtain⟨d,hd,hq⟩:=ih.gone q h1 h2;exact⟨d,CW hd,hq⟩
theorem uZ (f) (o p:_):∀i j v,Bq f o p i j=some v->∃e,dh f o p (Bb j).1 (Bb j).2=some e/\v=e-(o*((i:Int)-1-(Bb j).1)+p*((j:Int)-1-(Bb j).2))
 |0,j,v,h=>by rw[ji]at h;cases h
 |i+1,0,v,h=>by unfold Bq at h;cases h
 |i+1,j+1,v,hB=>by
  unfold c7;by_cases h1:dh f o p i j=Bq f o p (i+1) (j+1)
  ·rw[A7 h1];refine⟨v,by rw[h1,hB],?_⟩;have e1:((i+1:Nat):Int)-1-((i,j).1:Int)=0:=by show((i+1:Nat):Int)-1-(i:Int)=0;lia
   have e2:((j+1:Nat):Int)-1-((i,j).2:Int)=0:=by show((j+1:Nat):Int)-1-(j:Int)=0;lia
   rw[e1,e2,Int.mul_zero,Int.mul_zero];lia
  ·rw[A6 h1];by_cases h2:bL Od o=Bq f o p (i+1) (j+1)
   ·rw[A7 h2];cases e:Bq f o p i (j+1)with
    |none=>rw[e,hB]at h2;cases h2
    |some v2=>
     rw[e,hB]at h2;have h2:v2-o=v:=by simpa[bL]using h2
     obtain⟨x,hx,hv⟩:=uZ f o p i (j+1) v2 e;refine⟨x,hx,?_⟩;have e1:((i+1:Nat):Int)-1-((Bb (j+1)).1:Int)=((i:Int)-1-(Bb (j+1)).1)+1:=by lia
     rw[e1,Int.mul_add]
     lia
   ·rw[A6 h2];have e0:Bq f o p (i+1) (j+1)=qj [GG i j,KI o,QT p]:=by rw[Bq];rfl
    have key:∀a b c:Option Int,qj [a,b,c]≠a->qj [a,b,c]≠b->c=qj [a,b,c]:=λa b c=>by
     cases a<;>cases b<;>cases c<;>simp[qj]<;>lia
    have h3:bL (QW f) p=Bq f o p (i+1) (j+1):=by
     rw[e0];exact key _ _ _ (λz=>h1 (by rw[e0];exact z.symm)) (λz=>h2 (by rw[e0];exact z.symm))
    cases e:Bq f o p (i+1) j with
    |none=>rw[e,hB]at h3;cases h3
    |some v2=>
     rw[e,hB]at h3;have h3:v2-p=v:=by simpa[bL]using h3
     obtain⟨x,hx,hv⟩:=uZ f o p (i+1) j v2 e;refine⟨x,hx,?_⟩;have e1:((j+1:Nat):Int)-1-((c7 f o p (i+1) j).2:Int)=((j:Int)-1-(c7 f o p (i+1) j).2)+1:=by lia
     rw[e1,Int.mul_add]
     lia
termination_by i j=>(i,j)
theorem aoS (f) (o p:_):∀(k i j:Nat)(v:Int),i<=k->dh f o p i j=some v->Wy Ab ((Es f i i j).map aN)/\lstP ((Es f i i j).map aN)=aN (i,j)/\vl Ab o p ((Es f i i j).map aN)=v/\(Es f i i j).map (λq=>GG q.1 q.2)=(AY Ab o p ((Es f i i j).map aN)).map some:=by
 intro k
 induction k with
 |zero=>
  intro i j v hi he;have:i=0:=by lia
  subst this;rw[ir (λh=>by rw[ji]at h;cases h)];have hw:f 0 j=some v:=by
   unfold dh at he;rw[ji]at he;cases e:f 0 j with
   |none=>rw[e]at he;cases he
   |some w=>rw[e]at he;exact he
  have hl:lf f (aN (0,j))=some v:=by rw[<-hw];exact gy f 0 j
  refine⟨.one (by rw[hl];rfl),rfl,by simp[vl,hl],?_⟩;simp[AY,vl,hl,he]
 |succ k ih=>
  intro i j v hi he;by_cases hg:ij (Dv j)=true
  ·obtain⟨a1,a2,a3⟩:=kX hg;obtain⟨l1,l2⟩:=(lK f o p i j a1 a2).resolve_right a3;rw[aca hg,List.map_append,List.map_append];cases eb:Bq f o p i j with
   |none=>exact BO eb a3
   |some b=>
    obtain⟨x,hx,hb⟩:=uZ f o p i j b eb;obtain⟨w1,w2,w3,w4⟩:=ih _ _ x A3 hx;have hgb:0<=b:=by rw[eb]at hg;simpa[ij]using hg
    have hw:∃w,f i j=some w/\v=w+b:=by
     unfold dh at he;rw[eb]at he;cases e:f i j with
     |none=>rw[e]at he;cases he
     |some w=>
      rw[e]at he;simp only[Kq,show ¬b<0 by lia,if_false,Option.some.injEq]at he;exact⟨w,rfl,by lia⟩
    obtain⟨w,hw,hv⟩:=hw;have hl:lf f (aN (i,j))=some w:=by rw[<-hw];exact gy f i j
    have st:we (Aj ((Es f (Bb j).1 (Bb j).1 (Bb j).2).map aN)) (aN (i,j)):=by
     rw[w2];exact⟨by simp[aN];lia,by simp[aN];lia⟩
    have ev:vl Ab o p ((Es f (Bb j).1 (Bb j).1 (Bb j).2).map aN++[aN (i,j)])=v:=by
     rw[Kc w1.ne,w2,w3,hl];simp only[gp,Option.getD_some];have e1:(aN (i,j)).1-(aN ((Bb j).1,(Bb j).2)).1-1=(i:Int)-1-(Bb j).1:=by show(i:Int)-((Bb j).1:Int)-1=_;lia
     have e2:(aN (i,j)).2-(aN ((Bb j).1,(Bb j).2)).2-1=(j:Int)-1-(Bb j).2:=by show(j:Int)-((Bb j).2:Int)-1=_;lia
     rw[e1,e2]
     lia
    refine⟨w1.snoc (by rw[hl];rfl) st,bT,ev,?_⟩;show _++[GG i j]=(AY Ab o p (_++[aN (i,j)])).map some;rw[ahm,List.map_append,w4,he];show _++[some v]=_++[some _];rw[ev]
  ·rw[ir hg];have hw:f i j=some v:=by
    unfold dh at he;cases e:f i j with
    |none=>rw[e]at he;cases he
    |some w=>
     rw[e]at he;cases eb:Bq f o p i j with
     |none=>rw[eb]at he;exact he
     |some b=>
      rw[eb]at he hg;have:b<0:=by
       have:¬0<=b:=λz=>hg (by simpa[ij]using z)
       lia
      simp only[Kq,this,if_true]at he;exact he
   have hl:lf f (aN (i,j))=some v:=by rw[<-hw];exact gy f i j
   refine⟨.one (by rw[hl];rfl),rfl,by simp[vl,hl],?_⟩;simp[AY,vl,hl,he]
def K3(f:Nat->Nat->Option Int)(o p:Int)(n m:Nat):Option Int:=qj ((B5 n).map λi=>qj ((B5 m).map QV))
theorem adh(t:yF f n m)(o p:_):fD (λv=>∃ps,Wy Ab ps/\v=vl Ab o p ps) (K3 f o p n m):=by
 refine(lH _).X3 axg (λv hv=>?_)
 ·obtain⟨i,_,h2⟩:=List.mem_map.mp hv;have h3:=lH ((B5 m).map QV);rw[h2]at h3;obtain⟨j,_,h4⟩:=E4 h3.1;obtain⟨as,a1,_,a3⟩:=nU h4;exact⟨as,a1,a3.symm⟩
 ·obtain⟨ps,w,rfl⟩:=hv;obtain⟨i,j,hl,hi,hj⟩:=kF t w (dz w.ne);obtain⟨b,hb,hle⟩:=qU w;have h3:=lH ((B5 m).map QV);have pW:some b∈(B5 m).map (YL f i):=EY ⟨j,by simpa using hj,hb⟩;cases e:qj ((B5 m).map QV)with
  |none=>rw[e]at h3;exact BO pW (h3 b)
  |some u=>
   rw[e]at h3;refine⟨u,EY ⟨i,by simpa using hi,e⟩,?_⟩;have:=h3.2 b pW
   lia
theorem amj{p:Int}(T:eG f o p W)(t:yF f n m){a b}(h:f7 f o p W a b):∃i j:Nat,dh f o p i j=some W/\i<n/\j<m/\f7 f o p W a (aN (i,j)):=by
 obtain⟨ps,w,hm⟩:=h.on;obtain⟨i,j,hl,hi,hj⟩:=kF t w.1 (dz w.1.ne);obtain⟨v,hb,hle⟩:=qU w.1;obtain⟨as,a1,_,a3⟩:=nU hb;have:=T _ a1;have hW:=w.2;refine⟨i,j,by rw[hb];congr 1;lia,hi,hj, .way ps w hm ?_⟩;rw[<-hl];exact dz w.1.ne
def wj(n m:Nat):List Pr:=(B5 n).flatMap λi=>(B5 m).map λj=>aN (i,j)
theorem qw(n m:_):(wj n m).length=n*m:=by
 unfold wj
 induction n with
 |zero=>simp
 |succ n ih=>
  rw[List.range_succ,List.flatMap_append,List.length_append,ih,Nat.succ_mul];simp
theorem qx(hi:i<n)(hj:j<m):aN (i,j)∈wj n m:=List.mem_flatMap.mpr ⟨i,by simpa using hi,EY ⟨j,by simpa using hj,rfl⟩⟩
theorem Told.Bz{gs}(t:Told E gs)(h:∀g∈gs,∀a∈g,∃i j:Nat,a=aN (i,j)/\i<n/\j<m):gs.length<=n*m:=by
 have hf:∀g∈gs,j5 g∈g:=λg hg=>by
  cases e:g with
  |nil=>exact BO e (t.ne g hg)
  |cons a r=>simp[j5]
 have:=len_sub (gs.map j5) (wj n m) (List.pairwise_map.mpr (wI (λ{a b} ha hb Iu e=>Iu (j5 a) (hf a ha) (by rw[e];exact FK b)) t.apart)) λx hx=>by
  obtain⟨g,hg,rfl⟩:=E4 hx;obtain⟨i,j,e,hi,hj⟩:=h g hg _ (hf g hg);rw[e];exact qx hi hj
 rw[List.length_map,qw]at this;exact this
structure xV(P:Addr->Prop)(H:Hp)(CF a:Addr)(d:Fd)(dy wy rw pr:Addr)(mC iC:List V):Prop where
 ob:H a=some (.ins CF dy (oI d.worth wy rw pr))
 hw:H wy=some (.lst mC)
 pw:gw H mC d.way
 hr:H rw=some (.lst (fQ V.int))
 hp:H pr=some (.lst iC)
 pp:gw H iC d.pairs
 fa:P a
 fw:P wy
 fr:P rw
 fp:P pr
def cK(P:Addr->Prop)(H:Hp)(CF:Addr)(us:List V)(ds:List Fd):Prop:=us.length=ds.length/\∀(k:Nat) d,ds[k]?=some d->∃a dy wy rw pr mC iC,us[k]?=some (C_ a)/\xV P H CF a d dy wy rw pr mC iC
theorem xV.keep{a:Addr}{d}{pr:Addr}(F:xV P H CF a d dy wy rw pr mC iC)(h:∀b o,P b->H b=some o->H' b=some o)(t:eC H H')(hP:∀b,P b->P' b):xV P' H' CF a d dy wy rw pr mC iC:=
 ⟨HB F.fa F.ob,HB F.fw F.hw,F.pw.cT t,HB F.fr F.hr,HB F.fp F.hp,F.pp.cT t,hP _ F.fa,hP _ F.fw,hP _ F.fr,hP _ F.fp⟩
theorem cK.keep(F:cK P H CF us ds)(h:∀b o,P b->H b=some o->H' b=some o)(t:eC H H')(hP:∀b,P b->P' b):cK P' H' CF us ds:=
 ⟨F.1,λk d e=>let ⟨a,dy,wy,rw,pr,mC,iC,h1,h2⟩:=F.2 k d e;⟨a,dy,wy,rw,pr,mC,iC,h1,h2.keep h t hP⟩⟩
theorem cK.nil:cK P H CF [] []:=⟨rfl,λk d e=>by simp at e⟩
theorem cK.append(F:cK P H CF us ds)(G:cK P H CF vs es):cK P H CF (us++vs) (ds++es):=by
 refine⟨by rw[List.length_append,List.length_append,F.1,G.1],λk d e=>?_⟩;by_cases hk:k<ds.length
 ·rw[Bi hk]at e;rw[Bi (by rw[F.1];exact hk)];exact F.2 k d e
 ·rw[Br A3]at e;rw[Br (by rw[F.1];lia),F.1];exact G.2 _ d e
inductive u0(CT:Addr)(vs:List V)(H:Hp)(Q:VK)(u3:XK):Prop
 |mk (f g t:_) (v) (c) (shut) (_:vs=[.ref f, .ref g, .ref t,v]) (_:H f=some (.lst Vh)) (_:H g=some (.lst SY)) (_:uI H CT t c) (_:Cf H v shut) (_:shut.length<=1000) (_:c.xs.length<=1000) (_:c.ys.length<=1000) (_:∀H' e as,av H H'->H' e=some (.lst Dt)->H e=none->fE H' as (Fy c) c.xs.length c.ys.length->as.Nodup->e∉as->(∀a∈as,H a=none)->Q (.ref e) H'):u0 CT vs H Q u3
inductive qy(CT CF:Addr)(vs:List V)(H:Hp)(Q:VK)(u3:XK):Prop
 |mk (w t:_) (as) (c) (f) (n m:_) (_:vs=[.ref w, .ref t]) (_:H w=some (.lst Dt)) (_:fE H as f n m) (_:uI H CT t c) (_:yF f n m) (_:n*m<=3000) (_:n<=1000) (_:m<=1000)
  (_:Stop f c.out c.into c.least->∀H' r,av H H'->H r=none->H' r=some (.lst [])->Q (.ref r) H')
  (_:∀W gs ds,gf f c.out c.into c.least W gs ds->gs≠[]->∀H' r us,av H H'->H r=none->H' r=some (.lst us)->cK fF H' CF us ds->Q (.ref r) H'):qy CT CF vs H Q u3
inductive u_(CF:Addr)(vs:List V)(H:Hp)(Q:VK)(u3:XK):Prop
 |mk (w md:_) (as) (us) (ds) (f) (n m:_) (_:vs=[.ref w, .ref md]) (_:H w=some (.lst Dt)) (_:as.Nodup) (_:w∉as) (_:fE H as f n m) (_:H md=some (.lst us)) (_:md∉as) (_:cK (λb=>b∉as) H CF us ds) (_:∀d∈ds,∀q∈d.pairs,∃i j:Nat,q=aN (i,j)/\i<n/\j<m)
  (_:∀H',(∀b o,b∉as->H b=some o->H' b=some o)->eC H H'->fE H' as (jL f (ds.map Fd.pairs).flatten) n m->Q .de H'):u_ CF vs H Q u3
def R9(a b:Fd):Bool:=if a.worth=b.worth then kW (j5 a.pairs) (j5 b.pairs)else decide (b.worth<a.worth)
structure cX(f0:Nat->Nat->Option Int)(o p least:Int)(es:List Fd):Prop where
 R_:∃ds f,Reach f0 o p least ds f/\Stop f o p least/\es.Perm ds
 Bz:es.length<=20
 uO:es.Pairwise λa b=>R9 a b=true
inductive yU(CT CF CX:Addr)(vs:List V)(H:Hp)(Q:VK)(E:XK):Prop
 |mk (a b t:_) (c) (_:vs=[.ref a, .ref b, .ref t]) (_:H a=some (.lst Vh)) (_:H b=some (.lst SY)) (_:uI H CT t c) (_:c.xs.length<=50) (_:c.ys.length<=50)
  (_:∀es,cX DA c.out c.into c.least es->∀H' r us,av H H'->H r=none->H' r=some (.lst us)->cK fF H' CF us es->Q (.ref r) H')
  (_:∀ds f,Reach DA c.out c.into c.least ds f->20<ds.length->∀H',av H H'->E (.ref CX) none H'):yU CT CF CX vs H Q E
def IM(c:Case)(i m:Nat):Nat:=((B5 m).filter λj=>(Fl Be).isSome).length
def manyN(c:Case):Nat->Nat
 |0=>0
 |n+1=>manyN c n+IM c n c.ys.length
theorem aor (c) (i m:_):IM c i (m+1)=IM c i m+if (Fl (aN (i,m))).isSome=true then 1 else 0:=by
 unfold IM;rw[List.range_succ,List.filter_append,List.length_append]
 congr 1
 by_cases h:(Fl (aN (i,m))).isSome=true
 ·rw[A7 h,List.filter_cons,A7 h];rfl
 ·rw[A6 h,List.filter_cons,A6 h];rfl
theorem va (c):∀n,((Zs n).filter λq=>(Fl q).isSome).length=manyN c n
 |0=>rfl
 |n+1=>by
  unfold wj;rw[List.range_succ,List.flatMap_append,List.filter_append,List.length_append];have ih:=va c n;unfold wj at ih;rw[ih,manyN]
  congr 1
  simp only[List.flatMap_cons,List.flatMap_nil,List.append_nil];rw[List.filter_map,List.length_map];rfl
def cj(c:Case):Nat:=manyN c c.xs.length/21+1
def fm(c:Case):Int:=min c.same (999999/(cj c:Int))
def cW(c:Case):Case:={c with same:=fm c,least:=max c.least (((cj c:Int)-1)*fm c+1)}
theorem awc(s t:_) (fs) (x y:_):(Kj s fs).isSome=(Kj t fs).isSome:=by
 unfold dS;split
 ·rfl
 ·simp
theorem atU (c) (q):((cW c).pw q).isSome=(Fl q).isSome:=by
 unfold Case.pw;show((wd c.xs q.1).bind λx=>(wd c.ys q.2).bind λy=>Kj (cW c).same c.fs).isSome=_;cases wd c.xs q.1 with
 |none=>rfl
 |some x=>
  cases wd c.ys q.2 with
  |none=>rfl
  |some y=>exact awc _ _ _ _ _
theorem aqD{fs}(g:bY fs=true){p}(h:eP fs x y=some p):0<=p:=by
 unfold eP at h;cases e:fs.find? λf=>decide (f.1=x/\f.2.1=y)with
 |none=>rw[e]at h;cases h
 |some f=>
  rw[e]at h;have h:f.2.2=p:=by simpa using h
  have hm:=List.mem_of_find?_eq_some e;simp only[bY,Bool.and_eq_true,List.all_eq_true]at g;have:=g.1.2 f hm;simp only[F2,i5,inR,Bool.and_eq_true,decide_eq_true_eq]at this
  lia
theorem pw_le{c:Case}(g:bY c.fs=true){q}(h:c.pw q=some w):w<=c.same:=by
 unfold Case.pw at h;cases e1:wd c.xs q.1 with
 |none=>rw[e1]at h;cases h
 |some x=>
  cases e2:wd c.ys q.2 with
  |none=>rw[e1,e2]at h;cases h
  |some y=>
   rw[e1,e2]at h;have h:dS c.same c.fs x y=some w:=h;unfold dS at h;split at h
   ·cases h;exact Int.le_refl _
   ·cases e3:eP c.fs x y with
    |none=>rw[e3]at h;cases h
    |some p=>
     rw[e3]at h;have h:c.same-p=w:=by simpa using h
     have:=aqD g e3
     lia
theorem Ef (c) (n):manyN c n<=n*c.ys.length:=by
 rw[<-va,<-qw];exact List.length_filter_le _ _
theorem amd(k:fh m c)(hm:m<=60):fh m (cW c):=by
 have h1:manyN c c.xs.length<=3600:=by
  have:=Ef c c.xs.length;have h2:=KO (E3 k.x hm) (E3 k.y hm)
  lia
 have he:(1:Int)<=cj c/\(cj c:Int)<=172:=by unfold cj;lia
 have hq:(cj c:Int)*(999999/(cj c:Int))<=999999:=by
  have:=Int.mul_ediv_self_le (x:=999999) (k:=(cj c:Int)) (by lia);exact this
 have Se:1<=999999/(cj c:Int):=by
  have:(172:Int)<=999999:=AN;exact(Int.le_ediv_iff_mul_le A3).mpr A3
 have hs:=k.same;have hl:=k.least;have s1:1<=fm c/\fm c<=999999/\fm c<=999999/(cj c:Int):=by unfold fm;lia
 refine⟨k.x,k.y,k.good,⟨s1.1,s1.2.1⟩,k.out,k.into,?_⟩;show 1<=max c.least (((cj c:Int)-1)*fm c+1)/\max c.least (((cj c:Int)-1)*fm c+1)<=999999;have h3:((cj c:Int)-1)*fm c+1<=999999:=by
  have h4:(cj c:Int)*fm c<=(cj c:Int)*(999999/(cj c:Int)):=Int.mul_le_mul_of_nonneg_left s1.2.2 A3;rw[Int.sub_mul]
  lia
 lia
theorem iW(o p:_):∀{ps:List Pr},(∀q∈ps,g q=g' q)->vl g o p ps=vl g' o p ps
 |[],_=>rfl
 |[a],h=>by simp only[vl];rw[K' a]
 |a::b::r,h=>by
  have ih:=iW (g:=g) (g':=g') o p (ps:=b::r) λq hq=>h q (by simp[hq])
  simp only[vl];rw[ih,K' a]
theorem aja(o p:_){ps}(h:∀q∈ps,g q=g' q):AY g o p ps=AY g' o p ps:=by
 unfold AY;apply List.map_congr_left;intro k _;exact iW o p λq hq=>h q (HP hq)
theorem Wy.congr{ps}(w:Wy g ps)(h:∀q∈ps,g q=g' q):Wy g' ps:=⟨w.ne,λq hq=>by rw[<-h q hq];exact Gv q hq,w.up⟩
theorem auO{p:Int}(ho:0<=o)(hp:0<=p){a b}(s:we a b):0<=gp o p a b:=by
 have h1:=s.1;have h2:=s.2;have:=Int.mul_nonneg ho (show 0<=b.1-a.1-1 by lia);have:=Int.mul_nonneg hp (show 0<=b.2-a.2-1 by lia);unfold gp
 lia
theorem Mi{p:Int}(ho:0<=o)(hp:0<=p):∀{ps:List Pr},ps.Pairwise we->(∀q∈ps,∃w,g q=some w/\w<=S)->vl g o p ps<=ps.length*S
 |[],_,_=>by simp[vl]
 |[a],_,h=>by
  obtain⟨w,h1,h2⟩:=K' a;simp[vl,h1,h2]
 |a::b::r,hs,h=>by
  have oG:=NR hs;have ih:=Mi ho hp oG.2 λq hq=>h q (by simp[hq])
  obtain⟨w,h1,h2⟩:=K' a;have:=auO ho hp (oG.1 b (AA));simp only[vl,h1,Option.getD_some];have e:((a::b::r).length:Int)*S=((b::r).length:Int)*S+S:=by
   rw[List.length_cons (as:=b::r),Int.natCast_add,Int.add_mul];simp
  rw[e]
  lia
structure Sg(f0:Nat->Nat->Option Int)(o p least:Int)(d:Fd):Prop where
 way:Wy Gh d.way
 worth:vl Gh o p d.way=d.worth
 least:least<=d.worth
 row:d.row=AY Gh o p d.way
 sub:∀q∈d.way,q∈d.pairs
 uO:d.pairs.Pairwise λp q=>kW p q=true
 op:∀q∈d.pairs,(lf f0 q).isSome=true
 part:∀a b,d.way=a++b->a≠[]->b≠[]->vl Gh o p a<=d.worth/\vl Gh o p b<=d.worth
theorem Reach.mD{p:Int}{ds}(r:Reach f0 o p least ds f):∀d∈ds,Sg f0 o p least d:=by
 induction r with
 |start=>exact λd h=>by cases h
 |@round done f W gs ds r R ih=>
  intro d hd;rcases List.mem_append.mp hd with hd|hd
  ·exact ih d hd
  have ap:=r.apart;have k:=VB d;have hg:d.pairs∈gs:=by rw[<-R.Jr];exact EY ⟨d,hd,rfl⟩
  have cg:∀q∈d.way,lf f q=lf f0 q:=λq hq=>ap.sub q (k.way.1.ok q hq)
  refine⟨k.way.1.congr cg,?_,by rw[k.worth];exact R.least,by rw[k.row];exact aja o p cg,k.sub,R.told.uO _ hg,λq hq=>?_,λa b e ha hb=>?_⟩
  ·rw[<-Kn cg,k.way.2,k.worth]
  ·have:=(Q6 hg hq).open;rw[<-ap.sub q this];exact this
  ·have w:=k.way.1;rw[e]at w;rw[<-Kn (λq hq=>cg q (by rw[e];exact CW hq)),<-Kn (λq hq=>cg q (by rw[e];exact Cn hq)),k.worth];exact⟨R.top _ (w.left ha),R.top _ (w.right hb)⟩
theorem Reach.met{p:Int}{ds}(r:Reach f0 o p least ds f){ws}(w:Wy Gh ws):(∀q∈ws,(Hl q).isSome=true)∨∃d∈ds,vl Gh o p ws<=d.worth/\∃q∈ws,q∈d.pairs:=by
 induction r with
 |start=>exact .inl w.ok
 |@round done f W gs ds r R ih=>
  rcases ih with h|⟨d,h1,h2⟩
  ·have ap:=r.apart;by_cases hm:∃q∈ws,q∈gs.flatten
   ·obtain⟨q,hq,hg⟩:=hm;obtain⟨g,Ym,V_⟩:=RN hg;rw[<-R.Jr]at Ym;obtain⟨d,hd,rfl⟩:=E4 Ym;refine .inr ⟨d,Cn hd,?_,q,hq,V_⟩;have cg:∀q∈ws,lf f0 q=lf f q:=λq hq=>(ap.sub q (h q hq)).symm
    rw[Kn cg,(VB d).worth];exact R.top _ (w.congr cg)
   ·refine .inl λq hq=>?_
    rw[lL,A6 (λz=>hm ⟨q,hq,z⟩)];exact h q hq
  ·exact .inr ⟨d,CW h1,h2⟩
theorem cX.met{p:Int}{es}(t:cX f0 o p least es){ws}(w:Wy Gh ws)(h:least<=vl Gh o p ws):∃d∈es,vl Gh o p ws<=d.worth/\∃q∈ws,q∈d.pairs:=by
 obtain⟨ds,f,r,st,pm⟩:=t.R_;rcases r.met w with z|⟨d,h1,h2⟩
 ·exfalso;have cg:∀q∈ws,lf f0 q=lf f q:=λq hq=>(r.apart.sub q (z q hq)).symm
  have:=st ws (w.congr cg);rw[<-Kn cg]at this
  lia
 ·exact⟨d,ba h1,h2⟩
theorem cX.mD{p:Int}{es}(t:cX f0 o p least es):∀d∈es,Sg f0 o p least d:=λd hd=>by
 obtain⟨ds,f,r,_,pm⟩:=t.R_;exact r.mD d (Z1 hd)
theorem cX.apart{p:Int}(t:cX f0 o p least es):es.Pairwise λa b=>∀q∈a.pairs,q∉b.pairs:=by
 obtain⟨ds,f,r,_,pm⟩:=t.R_;exact(pm.pairwise_iff λ{a b} h q hq IG=>h q IG hq).mpr r.apart.ap
theorem agr{l:List (List Pr)}(h:∀x∈l,k<=x.length):l.length*k<=l.flatten.length:=by
 induction l with
 |nil=>simp
 |cons a r ih=>
  have h1:=K' a;have h2:=ih λx hx=>h x (by simp[hx])
  rw[List.flatten_cons,List.length_append,List.length_cons,Nat.succ_mul]
  lia
theorem pd:∀{ds:List Fd},ds.Pairwise (λa b=>∀q∈a.pairs,q∉b.pairs)->(∀d∈ds,d.pairs.Nodup)->(ds.map Fd.pairs).flatten.Nodup
 |[],_,_=>AA
 |d::r,h,h2=>by
  have h':=NR h;rw[List.map_cons,List.flatten_cons];refine List.nodup_append.mpr ⟨h2 d (AA),pd h'.2 λx hx=>h2 x (by simp[hx]),λa ha b hb e=>?_⟩;obtain⟨ps,hp,hq⟩:=RN hb;obtain⟨x,hx,rfl⟩:=E4 hp;exact h'.1 x hx a ha (by rw[e];exact hq)
theorem rT{ps:List Pr}(h:ps.Pairwise λp q=>kW p q=true):ps.Nodup:=h.imp λ{a b} h e=>by
 rw[e]at h;unfold kW at h;simp at h
theorem yV (c) (q):lf DA q=c.pw q:=by
 rw[oZ];simp[nK]
theorem akB(k:fh m aaP)(r:Reach nj (cW c).out (cW c).into (cW c).least ds f):ds.length<=20:=by
 have each:∀d∈ds,cj c<=d.pairs.length:=λd hd=>by
  have F:=r.mD d hd;have h1:=Mi (g:=lf nj) (S:=(cW c).same) k.out.1 k.into.1 F.way.up λq hq=>by
   obtain⟨w,hw⟩:=Hj (F.way.ok q hq);refine⟨w,hw,?_⟩;rw[yV]at hw;exact pw_le k.good hw
  rw[F.worth]at h1;have h2:=F.least;have h3:((cj c:Int)-1)*fm c+1<=(cW c).least:=by show _<=max c.least _;lia
  have hs:1<=fm c:=k.same.1;have h4:((cj c:Int)-1)*fm c<(d.way.length:Int)*fm c:=by
   have:(cW c).same=fm c:=rfl;rw[this]at h1
   lia
  have h5:(cj c:Int)-1<(d.way.length:Int):=Int.lt_of_mul_lt_mul_right h4 A3;have h6:=len_sub d.way d.pairs (F.way.up.imp λ{a b} h e=>by
   rw[e]at h;have:=h.1
   lia) F.sub
  lia
 have h1:=agr (l:=ds.map Fd.pairs) (k:=cj c) λx hx=>by
  obtain⟨d,hd,rfl⟩:=E4 hx;exact each d hd
 have h2:=pd r.apart.ap λd hd=>rT (r.mD d hd).uO
 have h3:=len_sub _ ((Zs c.xs.length).filter λq=>(Fl q).isSome) h2 λq hq=>by
  obtain⟨ps,hp,hq⟩:=RN hq;obtain⟨d,hd,rfl⟩:=E4 hp;have:=(r.mD d hd).op q hq;rw[yV,atU]at this;refine List.mem_filter.mpr ⟨?_,this⟩;obtain⟨w,hw⟩:=Hj this;obtain⟨⟨a1,a2⟩,a3,a4⟩:=Ni hw;have:=zk A3;have e:aN (q.1.toNat,q.2.toNat)=q:=Prod.ext (by simp[aN];lia) (by simp[aN];lia);rw[e]at this;exact this
 rw[va]at h3;rw[List.length_map]at h1;have h4:ds.length*cj c<=manyN c c.xs.length:=E3 h1 h3;rcases Nat.lt_or_ge 20 ds.length with h|h
 ·exfalso;have h5:21*cj c<=ds.length*cj c:=Nat.mul_le_mul_right _ h;unfold cj at h4 h5
  lia
 ·exact h
inductive yW(vs:List V)(H:Hp)(Q:VK)(u3:XK):Prop
 |mk (a) (c) (f g m l:_) (us) (_:vs=[.ref a]) (_:jd H a c f g m l us) (_:fh 60 c) (_:∀H' b m',av H H'->H b=none->H' b=some (.lst [.ref f, .ref g, .ref m', .ref l])->jd H' b (cW c) f g m' l us->Q (.ref b) H'):yW vs H Q u3
inductive yX(CF:Addr)(vs:List V)(H:Hp)(Q:VK)(u3:XK):Prop
 |mk (a) (c0) (f g m l:_) (us) (most) (_:vs=[.ref a]) (_:jd H a (cW c0) f g m l us) (_:fh most (cW c0)) (_:most<=50) (_:∀es,cX (Md (cW c0)) (cW c0).out (cW c0).into (cW c0).least es->∀H' r vs,av H H'->H r=none->H' r=some (.lst vs)->cK fF H' CF vs es->Q (.ref r) H'):yX CF vs H Q u3
end QF
namespace QF
open PySem L2 PySem.Spec PyProof.Rows PySem.W PySem.Calls
section
variable{X:Cx}
inductive OP(K:Frag)(neg:Bool)(x:V)(y:V)(H:Hp)(Q:VK):Prop
 |mk (p q:_) (r) (vs) (ps) (_:x= .ref p) (_:y= .ref q) (_:H p=some (.tup Gi)) (_:gF K H q vs) (_:gw H vs ps) (_:Q (.bl (xor neg (decide (r∈ps)))) H):OP K neg x y H Q
open Classical in
theorem acQ{p q}(hu:X.A.units+1<cLine)(I:Inv X pins σ H s)(hp:H p=some (.tup Gi))(hq:gF X.K H q vs)(P:gw H vs ps):
  ∃(its:List Value)(e:Value->Bool),s.heap.IsList q its.toArray/\(∀y∈its.toArray,SeqAt.EqAt X.A.in1 s y (.ref p) (e y))/\its.toArray.any e=decide (r∈ps):=by
 obtain⟨its,r1,pl,hz⟩:=Y9 (xs:=kM r) (.of hp);obtain⟨dZ,r2,Ke,Po⟩:=DP hq;have lc:=P.1;have l2:=r2.length;have key:∀j,j<dZ.length->∃g t,ps[j]?=some g/\dZ[j]?=some (.ref t)/\H t=some (.tup XZ):=λj hj=>by
  have hc:ps[j]?=some ps[j]:=by simp[show j<ps.length by lia]
  obtain⟨t,h1,h2⟩:=P.2 j _ hc;obtain⟨u,eu,ru⟩:=r2.get h1;cases ru;exact⟨_,t,hc,eu,h2⟩
 let e:Value->Bool:=λy=>decide (∃t,y=Value.ref t/\H t=some (.tup Gi))
 have ee:∀{t g},H t=some (.tup XZ)->e (.ref t)=decide (g=r):=λ{t g} h=>by
  show decide _=_;rw[Bool.eq_iff_iff,decide_eq_true_iff,decide_eq_true_iff];constructor
  ·rintro⟨t',e1,e2⟩;cases e1;rw[h]at e2;have:=Qj (Aw e2);simp only[kM,List.cons.injEq,V.int.injEq,and_true]at this;exact Cd this.1 this.2
  ·rintro rfl;exact⟨t,rfl,h⟩
 refine⟨dZ,e,Ke.isList,λy hy=>?_,?_⟩
 ·obtain⟨j,hj,rfl⟩:=Array.mem_iff_getElem.mp hy;have F9:j<dZ.length:=by simpa using hj
  obtain⟨g,t,h1,h2,h3⟩:=key j F9;have ej:dZ.toArray[j]= .ref t:=by
   have:=(AM h2).2;simpa using this
  rw[ej,ee h3];by_cases hn:t=p
  ·subst hn;rw[hp]at h3;have:=Qj (Aw h3);simp only[kM,List.cons.injEq,V.int.injEq,and_true]at this;have:r=g:=Cd this.1 this.2;rw[EK this.symm];exact SeqAt.EqAt.same _
  ·obtain⟨aaO,r3,pl3,hz3⟩:=I.tuple (xs:=kM g) (.of h3);have:=SeqAt.EqAt.of_refs hn (SeqAt.RcAt.tuples (A:=X.A.in1) pl3 pl (show X.A.in1.units<cLine from hu) (abf r3 r1 rfl rfl));rw[<-DS,<-oW,r3.length,r1.length];simpa using this
 ·rw[Bool.eq_iff_iff,Array.any_eq_true,decide_eq_true_iff];constructor
  ·rintro⟨j,hj,hh⟩;have F9:j<dZ.length:=by simpa using hj
   obtain⟨g,t,h1,h2,h3⟩:=key j F9;have ej:dZ.toArray[j]= .ref t:=by
    have:=(AM h2).2;simpa using this
   rw[ej,ee h3,decide_eq_true_iff]at hh;rw[<-hh];exact B7 h1
  ·intro hm;obtain⟨j,hj,hg⟩:=Gq hm;have F9:j<dZ.length:=by lia
   obtain⟨g,t,h1,h2,h3⟩:=key j F9;refine⟨j,by simpa using F9,?_⟩;have ej:dZ.toArray[j]'(by simpa using F9)= .ref t:=by
    have:=(AM h2).2;simpa using this
   rw[ej,ee h3,decide_eq_true_iff];rw[Bu hj,hg]at h1;exact(Aw h1).symm
theorem afe (K) (hu:X.A.units+1<cLine) (hK:X.K=K:=by rfl):rm X (compareOp .In) (OP K false):=by
 subst hK;intro pins s σ H x y v u Q I rx ry h;obtain⟨p,q,r,vs,ps,rfl,rfl,hp,hq,P,k⟩:=h;cases rx;cases ry;obtain⟨its,e,pl,h1,h2⟩:=acQ hu I hp hq P;refine SeqAt.in_listAt e pl h1 ⟨.bl (decide (r∈ps)),H,I,?_,by simpa using k⟩;rw[h2];rfl
theorem abm (K) (hu:X.A.units+1<cLine) (hK:X.K=K:=by rfl):rm X (compareOp .NotIn) (OP K true):=by
 subst hK;intro pins s σ H x y v u Q I rx ry h;obtain⟨p,q,r,vs,ps,rfl,rfl,hp,hq,P,k⟩:=h;cases rx;cases ry;obtain⟨its,e,pl,h1,h2⟩:=acQ hu I hp hq P;refine SeqAt.notIn_listAt e pl h1 ⟨.bl (!decide (r∈ps)),H,I,?_,by simpa using k⟩;rw[h2];rfl
end
end QF
namespace QF
open PySem L2
theorem qk.of(h:ma c ps=true):qk c [] ps:=⟨h,λp _=>AA⟩
theorem agx(h:ma c ps=true):Wy r9 ps/\dW c ps (ps.length-1)=vl r9 c.out c.into ps:=⟨AF.mp (.of h),agp (.of h)⟩
end QF
namespace L2
open PySem PySem.Spec PyProof.Rows PySem.W PySem.Calls
inductive fT(K:Frag)(x q:Str)(st:Stmt)(f:Addr):Prop
 |mk {oc kV dc pm cd ct:Value} {od an:Option Addr} {sl:Array sP} (l:K.lookup f=some ⟨oc,od, .func (Vo q .none dc cd),sl⟩) (c:codeIn K cd q=true) (k:keepIn K (.ref f)=true):fT K x q st f
theorem CK{Φ:Value->Value->Value->Option Addr->Value->Value->List Value->Prop}(h:∀k d p n c t a,O8 [a])(k d p:_) (n) (c t:_) (us) (e:us.length=1):Φ k d p n c t us:=QF.adi Nh us e
theorem yY{Φ:Value->Value->Value->Option Addr->Value->Value->List Value->Prop}(h:∀k d p n c t a b,O8 [a,b])(k d p:_) (n) (c t:_) (us) (e:us.length=2):Φ k d p n c t us:=QF.on2 Nh us e
theorem zW{Φ:Value->Value->Value->Option Addr->Value->Value->List Value->Prop}(h:∀k d p n c t x y z,O8 [x,y,z])(k d p:_) (n) (c t:_) (us) (e:us.length=3):Φ k d p n c t us:=QF.on3 Nh us e
theorem Ur{Φ:Value->Value->Value->Option Addr->Value->Value->List Value->Prop}(h:∀k d p n c t x y z u,O8 [x,y,z,u])(k d p:_) (n) (c t:_) (us) (e:us.length=4):Φ k d p n c t us:=QF.on4 Nh us e
theorem abZ{Φ:Value->Value->Value->Option Addr->Value->Value->List Value->Prop}(h:∀k d p n c t x y z u v,O8 [x,y,z,u,v])(k d p:_) (n) (c t:_) (us) (e:us.length=5):Φ k d p n c t us:=QF.on5 Nh us e
theorem bn6{Φ:Value->Value->Value->Option Addr->Value->Value->List Value->Prop}(h:∀k d p n c t x y z u v w,O8 [x,y,z,u,v,w])(k d p:_) (n) (c t:_) (us) (e:us.length=6):Φ k d p n c t us:=QF.on6 Nh us e
section
variable{P:Program}{w:World}{K:Frag}{mg:Str->Option Value}{base h:Heap}{cm:Bool}{k:Nat}{x q:Str}{st:Stmt}{f C:Addr}{ps:List Str}{sp:Sp}
def Us(x q:Str)(st:Stmt)(ps:List Str):Prop:=∀(kV doc pm:Value)(an:Option Addr)(gK ct:Value)(us:List Value),us.length=ps.length->bindArgs (Vo q .none doc gK) ⟨us,[]⟩=pure R3
theorem fT.df(d:fT K x q st f)(X:K.In h)(G:h.Ns mainGlobals mg)(a:nsIn K mainGlobals x=some (some (.ref f)))(ok:∀fd,jh K x q st f fd->aZ P w K mg base (AU P) cm k f fd ps sp)(b:Us x q st ps):bI P w K mg base cm k x ps sp:=by
 obtain⟨l,c,z⟩:=d;have F:=G8 (st:=st) l c z;exact apE F (mg_of X G a) (F.binds b) (ok _ F)
theorem fT.ok(d:fT K x q st f){R:FuncData->Prop}(ok:∀fd,ip K x q st f fd->R fd)(b:Us x q st ps):∃fd,R fd/\Binds K fd ps []:=by
 obtain⟨l,c,z⟩:=d;exact⟨_,ok _ (ud (st:=st) l c z), .all λus e=>b _ _ _ _ _ _ us e⟩
theorem fT.mt(d:fT K x q st f)(cl:x9 K C)(a:findIn K (.ref C) x=some (some (.ref f)))(i:isFn K (.ref f)=true)(ok:∀fd,ip K x q st f fd->aZ P w K mg base (AU P) cm k f fd ps sp)(b:Us x q st ps):ff P w K mg base cm k C x ps sp:=by
 obtain⟨fd,h1,h2⟩:=zp b;obtain⟨l,c,z⟩:=d;exact aol h1 ⟨a,i,z⟩ h2 cl
theorem fT.nw(d:fT K x q st f)(m:mg y=some (.ref C))(g1:makesIn K C=true)(g2:keepIn K (.ref C)=true)(a:findIn K (.ref C) "__init__"=some (some (.ref f)))(i:isFn K (.ref f)=true)(ok:∀fd,ip K x q st f fd->aZ P w K mg base (AU P) cm k f fd ps sp)(b:Us x q st ps):oE P w K mg base cm k y C ps [] sp:=by
 obtain⟨fd,h1,h2⟩:=zp b;exact Aq h1 ⟨g1,a,i,g2⟩ m h2 .nil
structure Sh(K:Frag)(x:Str)(C:Addr):Prop where
 a:nsIn K mainGlobals x=some (some (.ref C))
 b:excIn K C [.type "ValueError", .type "Exception", .type "BaseException", .type "object"] "ValueError.__new__"=true
 c:findIn K (.ref C) "__class__"=some (some (.builtin "object.__class__"))
 d:mroIn K C (.type "object")=some true
 e:mroIn K C (.type "BaseException")=some true
 f:findIn K (.ref C) "__getattribute__"=some (some (.builtin "BaseException.__getattribute__"))
 g:findIn K (.ref C) "__getattr__"=some none
 h:instIn K (.ref C) (.type "tuple")=some false
 i:keepIn K (.ref C)=true
theorem Sh.er(e:Sh K x C)(X:K.In h)(G:h.Ns mainGlobals mg):QF.Er K mg x C:=⟨mg_of X G e.a,e.b,e.c,e.d,e.e,e.f,e.g,e.h,e.i⟩
structure Si(K:Frag)(x:Str)(C:Addr):Prop where
 a:nsIn K mainGlobals x=some (some (.ref C))
 b:makesIn K C=true
 c:keepIn K (.ref C)=true
def BH(K:Frag)(x:Str):Prop:=nsIn K mainGlobals x=some none
structure TZ(K:Frag):Prop where
 a:BH K "len"
 b:BH K "range"
 c:BH K "isinstance"
 d:BH K "int"
 e:BH K "bool"
 f:BH K "str"
 g:BH K "list"
 h:BH K "tuple"
 i:BH K "dict"
 j:BH K "all"
 k:BH K "any"
 l:BH K "min"
 m:BH K "max"
 n:BH K "enumerate"
 o:BH K "ValueError"
theorem alB(z:BH K x)(X:K.In h)(G:h.Ns mainGlobals mg):mg x=none:=mg_none_of X G z
theorem TZ.tb(z:TZ K)(X:K.In h)(G:h.Ns mainGlobals mg):QF.TB mg:=⟨E9 z.a,E9 z.b,E9 z.c,E9 z.d,E9 z.e,E9 z.f,E9 z.g,E9 z.h,E9 z.i,E9 z.j,E9 z.k,E9 z.l,E9 z.m,E9 z.n,E9 z.o⟩
end
end L2
namespace QF
open PySem L2
def Ei(H:Hp)(us:List V)(ts:List (Pr×Int)):Prop:=us.length=ts.length/\∀(k:Nat)(x:Pr×Int),ts[k]?=some x->∃t,us[k]?=some (C_ t)/\H t=some (.tup [.int x.1.1, .int x.1.2, .int x.2])
theorem Ei.cT(S:Ei H us ts)(t:eC H H'):Ei H' us ts:=⟨S.1,λk x e=>let ⟨a,h1,h2⟩:=S.2 k x e;⟨a,h1,t _ _ h2⟩⟩
theorem Ei.nil:Ei H [] []:=⟨rfl,λk x e=>by simp at e⟩
theorem Ei.snoc(S:Ei H us ts){t}{x}(h:H t=some (.tup [.int x.1.1, .int x.1.2, .int x.2])):Ei H (us++[.ref t]) (ts++[x]):=by
 refine⟨by simp[S.1],λk y e=>?_⟩;by_cases hk:k<ts.length
 ·rw[Bi hk]at e;rw[Bi (by rw[S.1];exact hk)];exact S.2 k y e
 ·rw[Br A3]at e;have xP:k-ts.length=0:=by
   have:=(AM e).1;simp at this;lia
  rw[xP]at e;cases e;refine⟨t,?_,h⟩;rw[Br (by rw[S.1];lia),S.1,xP];rfl
def mT(c:Case)(sh:List Pr)(i:Nat):Nat->List (Pr×Int)
 |0=>[]
 |j+1=>mT c sh i j++match nK c sh Be with|some w=>[(aN (i,j),w)]|none=>[]
def fY(c:Case)(sh:List Pr):Nat->List (Pr×Int)
 |0=>[]
 |n+1=>fY c sh n++mT c sh n c.ys.length
theorem rV (c) (sh) (i):∀j,(mT c sh i j).length<=j
 |0=>Nat.le_refl _
 |j+1=>by
  have:=rV c sh i j;simp only[mT,List.length_append];split<;>simp<;>lia
theorem adN (c) (sh):∀n,(fY c sh n).length<=n*c.ys.length
 |0=>by simp[fY]
 |n+1=>by
  have:=adN c sh n;have:=rV c sh n c.ys.length;simp only[fY,List.length_append,Nat.succ_mul]
  lia
theorem acY:∀{j},x∈mT c sh i j->nK c sh x.1=some x.2
 |0,h=>by cases h
 |j+1,h=>by
  rcases List.mem_append.mp h with h|h
  ·exact acY h
  ·split at h
   ·rename_i w e
    have:x=(aN (i,j),w):=by simpa using h
    rw[this];exact e
   ·cases h
theorem nW:∀{n},x∈fY c sh n->nK c sh x.1=some x.2
 |0,h=>by cases h
 |n+1,h=>by
  rcases List.mem_append.mp h with h|h
  ·exact nW h
  ·exact acY h
inductive vc(vs:List V)(H:Hp)(Q:VK)(u3:XK):Prop
 |mk (a s:_) (c) (f g m l:_) (us ws:_) (sh) (_:vs=[.ref a, .ref s]) (_:jd H a c f g m l us) (_:H s=some (.lst ws)) (_:gw H ws sh) (_:c.xs.length<=50) (_:c.ys.length<=50) (_:∀H' r vs,av H H'->H r=none->H' r=some (.lst vs)->Ei H' vs (Hv sh)->Q (.ref r) H'):vc vs H Q u3
inductive ve(CF:Addr)(vs:List V)(H:Hp)(Q:VK)(u3:XK):Prop
 |mk (y) (P) (d) (dy wy rw pr:_) (mC iC:_) (_:vs=[.ref y]) (_:xV P H CF y d dy wy rw pr mC iC) (_:d.row.length=d.way.length) (_:d.way≠[]) (_:∀H',av H H'->Q (.bl true) H'):ve CF vs H Q u3
inductive rW(CF:Addr)(vs:List V)(H:Hp)(Q:VK)(u3:XK):Prop
 |mk (a t:_) (c) (f g m l:_) (us ws:_) (es) (_:vs=[.ref a, .ref t]) (_:jd H a c f g m l us) (_:fh 50 c) (_:H t=some (.lst ws)) (_:cK Tp H CF ws es) (_:cX DA c.out c.into c.least es) (_:∀H',av H H'->Q (.bl true) H'):rW CF vs H Q u3
theorem ahB(w:Wy r9 ps):ma c ps=true:=(AF.mpr w).1
theorem Ej (g) (o p:_) (ps):(AY g o p ps).length=ps.length:=by simp[AY]
theorem cX.pair{es}(t:cX DA c.out c.into c.least es){q}(h:nK c [] q=some w)(hl:c.least<=w):∃d∈es,q∈d.pairs:=by
 have hq:lf DA q=some w:=by rw[oZ];exact h
 obtain⟨d,hd,_,p,hp,BX⟩:=t.met (ws:=[q]) (.one (by rw[hq];rfl)) (by simp[vl,hq];exact hl);have:p=q:=by simpa using hp
 exact⟨d,hd,this▸BX⟩
theorem cX.A0(ok:fh m c)(t:cX DA c.out c.into c.least es){ds:List Fd}(hs:ds.Sublist es):(ds.map Fd.pairs).flatten.length<=m*m:=by
 have h2:=pd (t.apart.sublist hs) λd hd=>rT (apF d).uO
 have h3:=len_sub _ (Zs c.xs.length) h2 λq hq=>by
  obtain⟨ps,hp,hq⟩:=RN hq;obtain⟨d,hd,rfl⟩:=E4 hp;have:=(apF d).op q hq;rw[yV]at this;obtain⟨w,hw⟩:=Hj this;obtain⟨⟨a1,a2⟩,a3,a4⟩:=Ni hw;have:=zk A3;have e:aN (q.1.toNat,q.2.toNat)=q:=Prod.ext (by simp[aN];lia) (by simp[aN];lia);rw[e]at this;exact this
 rw[qw]at h3;exact E3 h3 (KO ok.x ok.y)
end QF
namespace L2
open PySem PySem.Spec PyProof.Rows PySem.W PySem.Calls
open AutoSeq1 (wpAny_loadPart')
end L2
namespace QF
open PySem L2 PySem.Spec PyProof.Rows PySem.W PySem.Calls
section
variable{X:Cx}
end
def mU(es:List Fd)(k:Nat):List Pr:=((K7 k).map Fd.pairs).flatten
theorem acX{d}(ek:es[k]?=some d):mU es (k+1)=mU es k++d.pairs:=by
 unfold mU;rw[List.take_succ,ek];simp
theorem awK{es}{k}{q}(h:q∈mU es k):∃d∈es.take k,q∈d.pairs:=by
 obtain⟨ps,hp,hq⟩:=RN h;obtain⟨d,hd,rfl⟩:=E4 hp;exact⟨d,hd,hq⟩
theorem avg{d}{q}(hd:d∈es)(hq:q∈d.pairs):q∈mU es es.length:=by
 unfold mU;rw[List.take_length];exact fS ⟨_,EY ⟨d,hd,rfl⟩,hq⟩
theorem cX.avH(t:cX DA c.out c.into c.least es){d}(ek:es[k]?=some d){q}(hq:q∈d.pairs):q∉mU es k:=λh=>by
 obtain⟨e,he,h2⟩:=awK h;obtain⟨hk,rfl⟩:=AM ek;obtain⟨i,hi,rfl⟩:=Gq he;rw[List.length_take]at hi;rw[List.getElem_take]at h2;exact List.pairwise_iff_getElem.mp t.apart i k (by lia) hk A3 q h2 hq
theorem cX.aeh(ok:fh m c)(t:cX DA c.out c.into c.least es) (k):(Je k).length<=m*m:=t.A0 ok J'
theorem atb{α:Type}{l:List α}{g:α}(h:l.Nodup)(e:l[i]?=some g):g∉l.take i:=λm=>by
 obtain⟨hi,rfl⟩:=AM e;obtain⟨j,hj,e2⟩:=Gq m;rw[List.length_take]at hj;rw[List.getElem_take]at e2;exact List.pairwise_iff_getElem.mp h j i A3 hi A3 e2
theorem afV(h:oH kvs ps) (g) (v):oH (Kl (bf g) v) (ps++[g]):=λp=>by
 rw[jH];by_cases hp:p=g
 ·rw[A7 (by rw[hp])];simp[hp]
 ·rw[A6 (λz=>hp Z6),h p];simp[hp]
abbrev Ky:=Int×List Pr
inductive Rn(o p least:Int):(Nat->Nat->Option Int)->List Fd->Prop
 |stop {f:Nat->Nat->Option Int} (_:Stop f o p least):Rn o p least f []
 |round {f:Nat->Nat->Option Int} {W:Int} {gs:List (List Pr)} {ds rs:List Fd} (_:gf f o p least W gs ds) (_:Rn o p least (nE f) rs):Rn o p least f (ds++rs)
theorem auV{ws:List Pr}(w:Wy (lf R8) ws):Wy Ab ws/\∀q∈ws,lf R8 q=lf f q:=by
 have:∀q∈ws,lf R8 q=lf f q:=λq hq=>by
  have:=Gv q hq;rw[lL]at this⊢;split at this
  ·cases this
  ·rename_i h;rw[A6 h]
 exact⟨w.congr this,this⟩
section
variable{X:Cx}
inductive KW(K:Frag)(x:V)(y:V)(H:Hp)(Q:VK):Prop
 |mk (p q:_) (xs ys:_) (ps) (_:x= .ref p) (_:y= .ref q) (_:gF K H p xs) (_:gF K H q ys) (_:gw H xs ps) (_:gw H ys ps) (_:Q (.bl false) H):KW K x y H Q
end
end QF
namespace QF
open PySem L2
end QF
namespace QF
open PySem L2
end QF
namespace L2
open PySem PySem.Spec PyProof.Rows PySem.W PySem.Calls
open AutoSeq1 (wpAny_loadPart')
end L2
namespace QF
open PySem L2 PySem.Spec PyProof.Rows PySem.W PySem.Calls
section
variable{X:Cx}
end
section
variable{m:Nat}{c:Case}
end
section
variable{φ ψ:Pr->Pr}{o p o' p' W least:Int}{f g:Nat->Nat->Option Int}
end
end QF
namespace L2
open PySem PySem.Spec PyProof.Rows PySem.W PySem.Calls
open AutoSeq1 (wpAny_loadPart')
open PySem.SeqAt PySem.MeetsSeq PySem.MeetsSeq2 PySem.MeetsSeq3 PySem.SeqRoads2
open PySem.SeqAt
section
variable{prog:Program}{w:World}{A:Around}{E:Value->Shared->Prop}{s:Shared}
end
end L2
namespace QF
open PySem L2 PySem.Spec PyProof.Rows PySem.W PySem.Calls
end QF
namespace QF
open PySem L2
section
variable{φ:Pr->Pr}{c:Case}{es:List Fd}{ks:List Ky}
end
section
open PySem.Spec PyProof.Rows PySem.W PySem.Calls
variable{X:Cx}
end
structure awE(c:Case)(zs:List Str):Prop where
 x:∀w∈c.xs,w∈zs
 y:∀w∈c.ys,w∈zs
 f:∀f∈c.fs,f.1∈zs/\f.2.1∈zs
section
variable{zs rs:List Str}{c:Case}(hl:rs.length=zs.length)(nd:rs.Nodup)(W:awE c zs)
include hl nd
include W
end
def ack(n m:Nat)(q:Pr):Prop:=(0<=q.1/\q.1<n)/\0<=q.2/\q.2<m
section
variable{n m:Nat}{S o p least:Int}(hS:0<S)(ho:40*S<=o)(hp:40*S<=p)(hn:n<=40)(hl:1<=least)
structure Un(n m:Nat)(S:Int)(f:Nat->Nat->Option Int):Prop where
 val:∀q,(Hl q).isSome=true->lf f q=some S/\ack n m q
 all:∀q q',(Hl q).isSome=true->ack n m q'->q.1-q.2=q'.1-q'.2->(Hl q').isSome=true
include hS ho hp hn
include hl
end
section
variable{n m:Nat}{S o p least:Int}{w:Str}(hS:0<S)(ho:40*S<=o)(hp:40*S<=p)(hn:n<=40)(hl:1<=least)
include hS ho hp hn hl
end
end QF
namespace L2
open PySem PySem.Spec PyProof.Rows PySem.W PySem.Calls
section
variable{prog:Program}{w:World}{A:Around}{E:Value->Shared->Prop}{s:Shared}
end
end L2
namespace QF
open PySem L2 PySem.Spec PyProof.Rows PySem.W PySem.Calls
end QF
namespace QF
open PySem L2 PySem.Spec PyProof.Rows PySem.W PySem.Calls
structure akM(κ:Type) where
 d:κ
 lt:κ->κ->Bool
 tr:∀{p q r},lt p q=true->lt q r=true->lt p r=true
 as:∀{p q},lt p q=true->lt q p=false
 TX:∀{p q},p≠q->lt p q=true∨lt q p=true
 Sk:Hp->Addr->κ->Prop
 zX:Heap->Addr->κ->Prop
 keep:∀{H H':Hp}{a w},av H H'->Sk H a w->Sk H' a w
 get:∀{X:Cx}{pins:List (Addr×Obj)}{σ:L2.St}{H:Hp}{s:Shared}{a:Addr}{w:κ},Inv X pins σ H s->Sk H a w->zX s.heap a w
 klt:∀{prog:Program}{w:World}{A:Around}{E:Value->Shared->Prop}{s:Shared}{x y:Addr}{p q:κ}{C:Bool->Shared->Prop},A.units+1<cLine->zX s.heap x p->zX s.heap y q->C (lt p q) s->wpAny AR A (keyLt' (LZ true) (.ref x) (.ref y)) C E s
 un:∀{H:Hp}{a w v},Sk H a w->Sk H a v->w=v
 tup:∀{h x p},zX h x p->∃o i t vs c,h.get? x=some o/\o.cls= .type "tuple"/\o.data= .seq (Value.int i t::vs).toArray c
section
variable{X:Cx}{cm:Bool}{k:Nat}{f:Addr}{fd:FuncData}{ps:List Str}{sp:Sp}{A':Around}{pins:List (Addr×Obj)}{σ:L2.St}{H:Hp}{s:Shared}{E:Value->Shared->Prop}{a kS:Addr}{vs:List Value}{xs:List V}{κ:Type}{T:akM κ}{ws:List κ}{e1:Nat}{P:PySem.Fin->Shared->Prop}
end
end QF
namespace QF
open PySem L2
section
variable(nu:Int)(o n:Str)(w:Int)(a r p:Addr)(l:Bool)
end
structure Bk where
 name:Str
 year:Int
 words:List Str
structure En where
 number:Int
 ain:Str
 apj:Str
 fd:Fd
 left:Bool
section
variable{f0 f:Nat->Nat->Option Int}{o p least W:Int}{ds:List Fd}
end
end QF
namespace L2
open PySem PySem.Spec PyProof.Rows PySem.W
section
variable{prog:Program}{w:World}{A:Around}{E:Value->Shared->Prop}{s:Shared}
end
end L2
namespace QF
open PySem L2
def c0:Case:=⟨[],[],5,3,3,5,[]⟩
structure aie(z:Str)(b o:Bk):Prop where
 ws:∀x∈b.words,x=z
 one:∃v,o.words=[v]
section
variable{z:Str}{b o:Bk}(B:aie z b o)
include B
end
end QF
namespace PySem.MeetsSeq
open PySem PyProof PySem.SeqAt
end PySem.MeetsSeq
namespace L2
open PySem PySem.Spec PyProof.Rows PySem.W PySem.Calls QF
section
variable{X:Cx}
end
end L2
namespace QF
open PySem L2
def takes(n:Str)(e:En):Bool:=decide (e.ain=n)||decide (e.apj=n)
end QF
namespace L2
open PySem PySem.Spec PyProof.Rows PySem.W PySem.Calls
section
variable{prog:Program}{w:World}{A:Around}{E:Value->Shared->Prop}{s:Shared}{it d:Addr}{i ep:Nat}{od:Obj}{es:Array DictEntry}{Q:Option Value->Shared->Prop}
end
section
variable{X:Cx}{tg:Expr}
end
open AutoSeq1 (wpAny_loadPart')
open PySem.SeqAt PySem.MeetsSeq PySem.MeetsSeq2 PySem.MeetsSeq3 PySem.SeqRoads2
open PySem.SeqAt
section
variable{prog:Program}{w:World}{A:Around}{E:Value->Shared->Prop}{s:Shared}
end
end L2
namespace QF
open PySem L2 PySem.Spec PyProof.Rows PySem.W PySem.Calls
end QF
namespace QF
open PySem L2
section
variable{f:Nat->Nat->Option Int}{o p W:Int}
def A4(f:Nat->Nat->Option Int)(o p:Int)(q:Pr)(v:Int):Prop:=(∃ws,Wy Ab ws/\lstP ws=q/\vl Ab o p ws=v)/\∀ws,Wy Ab ws->lstP ws=q->vl Ab o p ws<=v
def StV(f:Nat->Nat->Option Int)(o p:Int)(q:Pr)(v:Int):Prop:=(∃ws,Wy Ab ws/\j5 ws=q/\vl Ab o p ws=v)/\∀ws,Wy Ab ws->j5 ws=q->vl Ab o p ws<=v
instance(a b:Pr):Decidable (we a b):=inferInstanceAs (Decidable (a.1<b.1/\a.2<b.2))
def Nx(f:Nat->Nat->Option Int)(o p W:Int)(a b:Pr):Prop:=we a b/\∃e s,A4 f o p a e/\StV f o p b s/\e-gp o p a b+s=W
end
end QF
namespace L2
open PySem PySem.Spec PyProof.Rows PySem.W PySem.Calls
section
variable{X:Cx}
end
end L2
namespace QF
open PySem L2
open Classical in
noncomputable def nxB(f:Nat->Nat->Option Int)(o p W:Int)(a b:Pr):Bool:=decide (Nx f o p W a b)
open Classical in
open Classical in
open Classical in
noncomputable def hgB(f:Nat->Nat->Option Int)(o p W:Int)(a:Pr):Bool:=decide (f7 f o p W a a)
open Classical in
inductive CL(vs:List V)(H:Hp)(Q:VK)(u3:XK):Prop
 |mk (a t u:_) (c) (f g m l:_) (us) (q r:_) (_:vs=[.ref a, .ref t, .ref u]) (_:jd H a c f g m l us) (_:0<=c.out/\c.out<=999999) (_:0<=c.into/\c.into<=999999) (_:H t=some (.tup (kM q))) (_:H u=some (.tup Gi)) (_:Q (.int (gp c.out c.into q r)) H):CL vs H Q u3
theorem Reach.low{p:Int}{ds}(r:Reach f0 o p least ds f):∀ws,Wy Ab ws->∀d∈ds,vl Ab o p ws<d.worth:=by
 induction r with
 |start=>exact λ_ _ d h=>by cases h
 |@round done f W gs ds r R ih=>
  intro ws w d hd;obtain⟨w1,w2⟩:=auV w;rw[Kn w2];rcases List.mem_append.mp hd with hd|hd
  ·exact ih ws w1 d hd
  ·rw[(VB d).worth];have h1:=R.top ws w1;by_cases h:vl Ab o p ws=W
   ·have hm:=dz w.ne;obtain⟨ps,hp,hx⟩:=R.told.all (Aj ws) (.way ws ⟨w1,h⟩ hm hm);have:=w.ok _ hm;rw[lL,A7 (fS ⟨ps,hp,hx⟩)]at this;cases this
   ·lia
theorem gf.in{f:Nat->Nat->Option Int}{o p least W:Int}{gs:List (List Pr)}{ds}(R:gf f o p least W gs ds) (q):q∈gs.flatten↔∃d∈ds,q∈d.pairs:=by
 rw[<-R.Jr,List.mem_flatten];constructor
 ·rintro⟨l,h1,h2⟩;obtain⟨d,hd,rfl⟩:=E4 h1;exact⟨d,hd,h2⟩
 ·rintro⟨d,hd,h⟩;exact⟨_,EY ⟨d,hd,rfl⟩,h⟩
theorem Reach.Yp{p:Int}{ds}(r:Reach f0 o p least ds f) (q):((∃e∈ds,q∈e.pairs)->lf f q=none)/\((¬∃e∈ds,q∈e.pairs)->lf f q=lf f0 q):=by
 induction r with
 |start=>exact⟨(λ⟨e,h,_⟩=>by cases h),λ_=>rfl⟩
 |@round done f W gs ds r R ih=>
  rw[lL];refine⟨λ⟨e,he,hq⟩=>?_,λhn=>?_⟩
  ·rcases List.mem_append.mp he with he|he
   ·split
    ·rfl
    ·exact ih.1 ⟨e,he,hq⟩
   ·rw[A7 ((R.in q).mpr ⟨e,he,hq⟩)]
  ·rw[A6 (λz=>hn (let ⟨d,hd,h⟩:=(R.in q).mp z;⟨d,Cn hd,h⟩))];exact ih.2 λ⟨e,he,hq⟩=>hn ⟨e,CW he,hq⟩
theorem Reach.at{p:Int}{ds}(r:Reach f0 o p least ds f):∀d∈ds,∃g gs d0,gf g o p least d.worth gs d0/\d∈d0/\(∀q,((∃e∈ds,d.worth<e.worth/\q∈e.pairs)->lf g q=none)/\((¬∃e∈ds,d.worth<e.worth/\q∈e.pairs)->lf g q=lf f0 q))/\∀q,q∈gs.flatten↔∃e∈ds,e.worth=d.worth/\q∈e.pairs:=by
 induction r with
 |start=>exact λd h=>by cases h
 |@round done f W gs ds r R ih=>
  have lt:∀d∈done,W<d.worth:=λd hd=>by
   obtain⟨ws,w1,w2⟩:=R.ex;rw[<-w2];exact r.low ws w1 d hd
  have eW:∀d∈ds,d.worth=W:=λd hd=>(VB d).worth
  intro d hd;rcases List.mem_append.mp hd with hd|hd
  ·obtain⟨g,acx,d0,R',hm,h1,h2⟩:=ih d hd;have hW:=lt d hd;have e1:∀q,(∃e∈done++ds,d.worth<e.worth/\q∈e.pairs)↔∃e∈done,d.worth<e.worth/\q∈e.pairs:=λq=>⟨λ⟨e,he,h3,h4⟩=>by
    rcases List.mem_append.mp he with he|he
    ·exact⟨e,he,h3,h4⟩
    ·have:=eW e he;lia,λ⟨e,he,h⟩=>⟨e,CW he,h⟩⟩
   refine⟨g,acx,d0,R',hm,λq=>by rw[e1];exact h1 q,λq=>?_⟩;rw[h2];exact⟨λ⟨e,he,h⟩=>⟨e,CW he,h⟩,λ⟨e,he,h3,h4⟩=>by
    rcases List.mem_append.mp he with he|he
    ·exact⟨e,he,h3,h4⟩
    ·have:=eW e he;lia⟩
  ·have hw:=eW d hd;have e1:∀q,(∃e∈done++ds,d.worth<e.worth/\q∈e.pairs)↔∃e∈done,q∈e.pairs:=λq=>⟨λ⟨e,he,h3,h4⟩=>by
    rcases List.mem_append.mp he with he|he
    ·exact⟨e,he,h4⟩
    ·have:=eW e he;lia,λ⟨e,he,h⟩=>⟨e,CW he,by have:=lt e he;lia,h⟩⟩
   refine⟨f,gs,ds,by rw[hw];exact R,hd,λq=>by rw[e1];exact r.Yp q,λq=>?_⟩;rw[R.in];exact⟨λ⟨e,he,h⟩=>⟨e,Cn he,by rw[eW e he,hw],h⟩,λ⟨e,he,h3,h4⟩=>by
    rcases List.mem_append.mp he with he|he
    ·have:=lt e he;lia
    ·exact⟨e,he,h4⟩⟩
theorem IV(h:∀q,(q∈sh->lf g q=none)/\(q∉sh->lf g q=lf DA q)):g=dU c sh:=by
 funext i j
 rw[<-gy g,<-gy Ez,oZ];unfold nK;by_cases e:((i:Int),(j:Int))∈sh
 ·rw[A7 e];exact(h _).1 e
 ·rw[A6 e,(h _).2 e,yV]
theorem cX.at{p:Int}{es}(t:cX DA o p least es){d}(hd:d∈es)(hs:∀q,q∈sh↔∃e∈es,d.worth<e.worth/\q∈e.pairs):∃gs d0,gf Ez o p least d.worth gs d0/\d∈d0/\∀q,q∈gs.flatten↔∃e∈es,e.worth=d.worth/\q∈e.pairs:=by
 obtain⟨ds,f,r,_,pm⟩:=t.R_;obtain⟨g,gs,d0,R,hm,h1,h2⟩:=r.at d (Z1 hd);have e1:∀(P:Fd->Prop),(∃e∈ds,P e)↔∃e∈es,P e:=λP=>⟨λ⟨e,he,h⟩=>⟨e,ba he,h⟩,λ⟨e,he,h⟩=>⟨e,Z1 he,h⟩⟩
 have eg:g=dU c sh:=IV λq=>by
  rw[hs,<-e1];exact h1 q
 rw[eg]at R;exact⟨gs,d0,R,hm,λq=>by rw[h2,e1]⟩
theorem cX.end{p:Int}{es}(t:cX DA o p least es)(hs:∀q,q∈sh↔∃e∈es,q∈e.pairs):Stop Ez o p least:=by
 obtain⟨ds,f,r,st,pm⟩:=t.R_;have eg:f=dU c sh:=IV λq=>by
  rw[hs,show(∃e∈es,q∈e.pairs)↔∃e∈ds,q∈e.pairs from⟨λ⟨e,he,h⟩=>⟨e,Z1 he,h⟩,λ⟨e,he,h⟩=>⟨e,ba he,h⟩⟩];exact r.Yp q
 rw[<-eg];exact st
theorem row_end{p:Int}(T:eG f o p W){bs}(h:BW f o p W (as++aN (i,j)::bs)):dh f o p i j=some (Om Ab (as++[aN (i,j)])):=by
 obtain⟨w,hv⟩:=h;have w1:Wy Ab (as++[aN (i,j)]):=Wy.left (bs:=bs) (by simpa using w) (AA);have hE:=gz f o p i j;cases e:dh f o p i j with
 |none=>rw[e]at hE;exact BO ⟨_,w1,bT,rfl⟩ VS
 |some E=>
  rw[e]at hE;obtain⟨⟨us,u1,u2,u3⟩,up⟩:=hE;have h1:=up _ ⟨_,w1,bT,rfl⟩
  congr 1
  have h2:E<=vl Ab o p (as++[aN (i,j)]):=by
   cases bs with
   |nil=>
    rw[hv];rw[u3];exact T us u1
   |cons b r=>
    have w2:Wy Ab (b::r):=Wy.right (as:=as++[aN (i,j)]) (by simpa using w) (AA);have st:we Be b:=(NR (Et w.up).2.1).1 b (AA);have hu:=T _ (u1.app w2 (by rw[show lstP us=aN (i,j)from u2];exact st));rw[S_ u1.ne,show lstP us=aN (i,j)from u2]at hu;have ev:=uU Ab o p (as:=as++[aN (i,j)]) (AA) b r;rw[bT]at ev;rw[show as++aN (i,j)::b::r=(as++[aN (i,j)])++b::r by simp,ev]at hv;rw[u3]
    lia
  lia
theorem uj{q}(h:nK c sh q=some w):∃i j E,q=aN (i,j)/\i<c.xs.length/\j<c.ys.length/\lf Ez q=some w/\n9 c sh i j=some E/\A4 Ez c.out c.into q E:=by
 have hq:lf Ez q=some w:=by rw[oZ];exact h
 have hp:∃v,c.pw q=some v:=by
  unfold nK at h;split at h
  ·cases h
  ·exact⟨w,h⟩
 obtain⟨v,hv⟩:=hp;obtain⟨⟨a1,a2⟩,a3,a4⟩:=Ni hv;have e:q=aN (q.1.toNat,q.2.toNat):=Prod.ext (by simp[aN];lia) (by simp[aN];lia);have hE:=gz Ez c.out c.into q.1.toNat q.2.toNat;have one:Wy VV [q]:= .one (by rw[hq];rfl);have e2:(((q.1.toNat:Nat):Int),((q.2.toNat:Nat):Int))=q:=e.symm;rw[e2]at hE;cases eE:dh Ez c.out c.into q.1.toNat q.2.toNat with
 |none=>rw[eE]at hE;exact BO ⟨[q],one,rfl,rfl⟩ VS
 |some E=>
  rw[eE]at hE;obtain⟨⟨us,u1,u2,u3⟩,up⟩:=hE;exact⟨_,_,E,e,by lia,by lia,hq,eE,⟨us,u1,u2,u3.symm⟩,λws h1 h2=>up _ ⟨ws,h1,h2,rfl⟩⟩
theorem A4.ge{p:Int}{q}(h:A4 f o p q E)(hq:lf f q=some w):w<=E:=by
 have:=h.2 [q] (.one (by rw[hq];rfl)) rfl;simpa[vl,hq]using this
theorem A4.next{p:Int}{q:Pr}(h:A4 f o p q E)(k:A4 f o p r F)(hq:lf f q=some w)(st:we r q):w+F-gp o p r q<=E:=by
 obtain⟨⟨us,u1,u2,u3⟩,_⟩:=k;have:=h.2 (us++[q]) (u1.snoc (by rw[hq];rfl) (by rw[u2];exact st)) bT;rw[Kc u1.ne,hq,u2,u3]at this;simpa using this
theorem ahP(T:eG Ez c.out c.into W)(h:nK c sh (aN (i,j))=some w):∃V,me c sh i j=some V/\(V=W↔f7 Ez c.out c.into W Be (aN (i,j))):=by
 obtain⟨i',j',E,e,hi,hj,hq,hE,_⟩:=uj h;have e1:i'=i:=by have:=(Hi e).1;lia
 have e2:j'=j:=by have:=(Hi e).2;lia
 subst e1 e2;have hT:=anJ (Cm c sh) c.out c.into hi hj;have one:Wy VV [aN (i',j')]:= .one (by rw[hq];rfl);have hT:fD (abV Ez c.out c.into (aN (i',j'))) (me c sh i' j'):=hT;cases eV:me c sh i' j' with
 |none=>rw[eV]at hT;exact BO ⟨_,one,List.mem_singleton.mpr rfl,rfl⟩ (hT _)
 |some V=>
  rw[eV]at hT;obtain⟨⟨us,u1,u2,u3⟩,up⟩:=hT;refine⟨V,rfl,λe=> .way us ⟨u1,by lia⟩ u2 u2,λhh=>?_⟩;obtain⟨ws,⟨w1,w2⟩,w3⟩:=hh.on;have:=up _ ⟨ws,w1,w3,rfl⟩;have:=T us u1
  lia
theorem apY{p:Int}(T:eG f o p W){d}(k:ON f o p W d):d.row.length=d.way.length/\∀(n:Nat)(q:Pr),d.way[n]?=some q->∃i j v,q=aN (i,j)/\(Hl q).isSome=true/\d.row[n]?=some v/\dh f o p i j=some v:=by
 refine⟨by rw[k.row,Ej],λn q hq=>?_⟩;have hn:n<d.way.length:=(AM hq).1;have PL:=k.way.1.ok q (B7 hq);obtain⟨i,j,e⟩:=qm PL;have e:q=aN (i,j):=e;subst e;refine⟨i,j,_,rfl,PL,by rw[k.row,AY,List.getElem?_map,apJ hn];rfl,?_⟩;have e1:d.way.take (n+1)=d.way.take n++[aN (i,j)]:=by rw[List.take_succ,hq];rfl
 have e2:d.way=d.way.take n++aN (i,j)::d.way.drop (n+1):=by
  have h1:=Sn (n+1) d.way;rw[e1,List.append_assoc]at h1;exact h1.symm
 show dh f o p i j=some (Om Ab (d.way.take (n+1)));rw[e1];exact row_end T (bs:=d.way.drop (n+1)) (by rw[<-e2];exact k.way)
inductive vf(So:List V)(H:Hp)(Q:VK)(u3:XK):Prop
 |mk (a s e:_) (most) (c) (x y m l:_) (us ws:_) (es) (sh) (_:So=[.ref a, .ref s, .ref e, .int most]) (_:jd H a c x y m l us) (_:0<=c.out/\c.out<=999999) (_:0<=c.into/\c.into<=999999) (_:H s=some (.lst ws)) (_:Ei H ws (Hv sh)) (_:H e=some (.lst RL)) (_:fE H es (n9 c sh) c.xs.length c.ys.length) (_:∀ps,Wy VV ps->vl VV c.out c.into ps<=most) (_:∀H',av H H'->Q (.bl true) H'):vf So H Q u3
inductive rX(CF:Addr)(So:List V)(H:Hp)(Q:VK)(u3:XK):Prop
 |mk (a t:_) (W) (c) (x y m l:_) (us ws:_) (es) (d) (_:So=[.ref a, .ref t, .int W]) (_:jd H a c x y m l us) (_:fh 30 c) (_:H t=some (.lst ws)) (_:cK Tp H CF ws es) (_:cX DA c.out c.into c.least es) (_:d∈es) (_:d.worth=W) (_:∀H',av H H'->Q (.bl true) H'):rX CF So H Q u3
theorem aps(is:List Int):TN pR (WH V.int) λ_=>true:=λj x y hx hy=>by
 rw[hx]at hy;cases hy;rw[List.getElem?_map]at hx;cases e:is[j]? with
 |none=>rw[e]at hx;cases hx
 |some i=>
  rw[e]at hx;cases hx;exact .inl ⟨rfl,rfl,by simp[xB]⟩
def lN(P:Fd->Bool)(es:List Fd):List Pr:=((es.filter P).map Fd.pairs).flatten
theorem vh{es}{q}:q∈lN P es↔∃e∈es,P e=true/\q∈e.pairs:=by
 unfold lN;rw[List.mem_flatten];constructor
 ·rintro⟨l,h1,h2⟩;obtain⟨e,he,rfl⟩:=E4 h1;obtain⟨h3,h4⟩:=N_ he;exact⟨e,h3,h4,h2⟩
 ·rintro⟨e,h1,h2,h3⟩;exact⟨_,EY ⟨e,pJ ⟨h1,h2⟩,rfl⟩,h3⟩
theorem iu (P) (es) (e):lN P (es++[e])=if P e then lN P es++e.pairs else lN P es:=by
 unfold lN;rw[List.filter_append];cases h:P e with
 |true=>simp[h]
 |false=>simp[h]
theorem A5(ok:fh m c)(t:cX DA c.out c.into c.least es) (P) (k):(lN P (K7 k)).length<=m*m:=
 t.A0 ok (List.Sublist.trans List.filter_sublist (List.take_sublist ..))
theorem gf.Fu{f:Nat->Nat->Option Int}{o p least W:Int}{gs:List (List Pr)}(R:gf f o p least W gs ds) (q):q∈gs.flatten↔f7 f o p W q q:=by
 rw[List.mem_flatten];exact⟨λ⟨l,h1,h2⟩=>Q6 h1 h2,λh=>let ⟨ps,h1,h2⟩:=R.told.all q h;⟨ps,h1,h2⟩⟩
end QF
namespace QF
open PySem L2 PySem.Spec PyProof.Rows PySem.W PySem.Calls
end QF
namespace QF
open PySem L2
end QF
namespace QF
open PySem L2
abbrev sR(a:Addr):Option V:=some (.ref a)
abbrev sI(a:Int):Option V:=some (.int a)
abbrev sS(a:Str):Option V:=some (.str a)
end QF
namespace WJ
open PySem L2 QF
def top(i:Nat):Stmt:=PySem.Challenge.pw_quotefind_k21_shown_best.main.body.getD i (.Pass ⟨0,0,0,0⟩)
abbrev gR:Stmt:=top 33
abbrev nX:Stmt:=top 34
abbrev lO:Stmt:=top 39
abbrev jM:Stmt:=top 40
abbrev gS:Stmt:=top 41
abbrev iD:Stmt:=top 42
abbrev bG:Stmt:=inClass (top 43) 0
abbrev eQ:Stmt:=inClass (top 43) 1
abbrev lP:Stmt:=top 11
abbrev CM:Stmt:=top 12
abbrev gA:Stmt:=top 13
abbrev d6:Stmt:=JS 1
abbrev fo:Stmt:=JS 0
abbrev iy:Stmt:=JS 2
abbrev eR:Stmt:=JS 4
abbrev dC:Stmt:=JS 3
abbrev fH:Stmt:=JS 5
abbrev i7:Stmt:=JS 6
abbrev gB:Stmt:=inClass (top 25) 0
abbrev ph:Stmt:=top 29
abbrev fI:Stmt:=top 26
abbrev gT:Stmt:=Qc 0
abbrev jl:Stmt:=Qc 1
abbrev fU:Stmt:=Qc 2
abbrev fJ:Stmt:=Qc 3
abbrev iE:Stmt:=Qc 4
abbrev fK:Stmt:=ZC 0
abbrev fV:Stmt:=ZC 1
abbrev dX:Stmt:=ZC 2
abbrev fq:Stmt:=ZC 3
abbrev kH:Stmt:=top 9
abbrev nY:Stmt:=top 16
abbrev f9:Stmt:=top 17
abbrev gU:Stmt:=top 27
abbrev lQ:Stmt:=top 28
abbrev rY:Stmt:=top 30
abbrev fW:Stmt:=top 18
abbrev iz:Stmt:=top 19
abbrev i8:Stmt:=top 20
abbrev bD:Stmt:=top 21
abbrev bg:Stmt:=top 22
abbrev rZ:Stmt:=top 45
abbrev lR:Stmt:=top 46
abbrev mV:Stmt:=top 47
abbrev mW:Stmt:=top 48
abbrev jm:Stmt:=top 49
abbrev gW:Stmt:=top 50
abbrev mY:Stmt:=top 51
abbrev mZ:Stmt:=top 52
abbrev m3:Stmt:=top 53
abbrev lT:Stmt:=top 54
abbrev lU:Stmt:=top 55
abbrev lV:Stmt:=top 56
abbrev m4:Stmt:=top 57
abbrev gX:Stmt:=top 58
abbrev iF:Stmt:=top 59
abbrev jn:Stmt:=top 60
abbrev pj:Stmt:=top 61
abbrev iG:Stmt:=top 62
abbrev lW:Stmt:=top 63
abbrev lX:Stmt:=top 64
abbrev cw:Stmt:=top 65
abbrev tG:Stmt:=top 66
section
variable{P:Program}{w:World}{K:W.Frag}{mg:Str->Option Value}{base:Heap}
variable{fL d7 aQ az aA aJ aC nZ:Addr}
variable(T:TB mg)
theorem anQ:aK ["sign"] ["sign"] (au gR):=gC
include T in
theorem arP{f}{fd}(F:jh K "is_small_letter" "is_small_letter" gR f fd):aZ P w K mg base (AU P) true 1 f fd ["sign"] B9:=by
 refine F.f' anQ Am gD
 ·obtain⟨i,rfl,_⟩:=h;rfl
 ·obtain⟨c,rfl,q⟩:=h;refine⟨_,(A8 (Az (Z5 (Fs aai eI Bv) (Y2 (Fs aai Bv eI))))),?_⟩;refine⟨_,rfl,_,_,rfl,rfl,_,rfl,?_⟩;have q:Q (.bl (decide (97<=c)&&decide (c<=122))) H:=q;rw[<-ahV,<-akP]at q;refine a9 KY (λh=>?_)
  ·refine⟨_,rfl,_,_,rfl,rfl,?_⟩;rw[h,Bool.true_and]at q;exact q
  ·rw[Bool.not_eq_true]at h;rw[h,Bool.false_and]at q;exact q
variable(kc:GH mg "WORD_MOST" (.int 12))
variable(ft:bI P w K mg base true 1 "is_small_letter" ["sign"] B9)
theorem ahb:aK ["text"] ["text"] (au nX):=gC
include T kc ft in
theorem atv(F:jh K "is_word" "is_word" nX f fd):aZ P w K mg base (AU P) true 2 f fd ["text"] ym:=by
 refine F.f' ahb Am gD
 ·obtain⟨i,rfl,_⟩:=h;rfl
 ·obtain⟨z,rfl,hz,q⟩:=h;refine⟨_,(AS (CJ (CO (Cg (Fg (γ p8) ai) (EL (Cb oC (γ p8) (Jc kc)))))) (A8 (Az (qB (aew K rfl) T.awL PyProof.Rows.Boot.«all» (AB (JF (show bx ["text"] (au nX) _ ["sign"] [] []from FA) (@api _ _ _ _ (pv 0)) (λ_ _ _ _ _=>(Af (0) (show(["sign"]:List Str).Nodup by decide+kernel))) (λ_ _ _ _ _=>(N6 ft)))))))),?_⟩;have Yr:z.length<=sizeLine:=qE hz;refine⟨_,rfl,z,rfl,Yr,_,_,rfl,rfl,_,rfl,?_⟩;refine a9 KY (λh=>?_)
  ·have h:((z.length:Nat):Int)<1:=by simpa using h
   refine j1 ?_;have e:uC z=false:=by
    have:¬1<=z.length:=by lia
    simp[uC,this]
   have q:=q H (av.refl H);rw[e]at q;exact q
  have h:¬((z.length:Nat):Int)<1:=by simpa using h
  refine⟨_,rfl,z,rfl,Yr,_,_,rfl,rfl,_,rfl,?_⟩;refine a9 He (λh2=>?_)
  ·have h2:(12:Int)<((z.length:Nat):Int):=by simpa using h2
   have e:uC z=false:=by
    have:¬z.length<=12:=by lia
    simp[uC,this]
   have q:=q H (av.refl H);rw[e]at q;exact q
  have h2:¬(12:Int)<((z.length:Nat):Int):=by simpa using h2
  have hl:z.length<=12:=by lia
  have e:uC z=z.cps.toList.all low:=by
   have h3:1<=z.length:=by lia
   simp[uC,h3,hl]
  refine⟨_,rfl,z,rfl,λD hD=>?_⟩;refine apB (λi ys σ H'=>(∃v,σ=[v])/\ys=(z.cps.toList.take i).map (λc=>V.bl (low c))/\H'=upd H D (.lst ys)) ⟨⟨_,rfl⟩,rfl,rfl⟩ ?_ ?_
  ·rintro i c ys σ H' hc ⟨⟨v,rfl⟩,hy,rfl⟩;refine rD ?_;refine⟨_,rfl,c,rfl,ae,?_,⟨_,rfl⟩,?_,?_⟩
   ·rw[hy,List.length_map,List.length_take];exact aqY (Nat.min_le_left _ _) (Nat.lt_of_lt_of_le (JM (AM hc).1 (by simpa[Str.length]using hl)) (AN))
   ·rw[hy,List.take_succ,hc];simp
   ·rw[gL]
  ·rintro ys σ H' ⟨_,hy,rfl⟩;have wk:ys=(Ys low).map V.bl:=by
    rw[hy,vD (by simp[Str.length])];simp
   rw[wk];refine⟨D,Ys low,rfl,gF.of ae,?_⟩;have q:=E8 (av.upd hD:av H (Ea D (.lst ((Ys low).map V.bl))));rw[e]at q;have e3:(Ys low).all id=z.cps.toList.all low:=by rw[List.all_map];rfl
   rw[<-e3]at q;exact q
theorem anT:aK ["low","number","high"] ["low","number","high"] (au lO):=gC
include T in
theorem ahX(F:jh K "is_between" "is_between" lO f fd):aZ P w K mg base (AU P) true 1 f fd ["low","number","high"] oU:=by
 refine F.f' anT Am gD
 ·obtain⟨l,n,h,rfl,_⟩:=h;rfl
 ·obtain⟨l,n,h,rfl,q⟩:=h;refine⟨_,(A8 (Az (Z5 (Fs Dx Bv (pv 1)) (Y2 (Fs Dx Ba (pv 2)))))),?_⟩;refine⟨_,rfl,_,rfl,_,_,rfl,rfl,_,rfl,?_⟩;refine a9 Fw (λh1=>?_)
  ·refine⟨_,rfl,_,rfl,_,_,rfl,rfl,?_⟩;rw[h1,Bool.true_and]at q;exact q
  ·rw[Bool.not_eq_true]at h1;rw[h1,Bool.false_and]at q;exact q
variable(eU:bI P w K mg base true 1 "is_between" ["low","number","high"] oU)
variable(jN:Er K mg "BadTerms" fL)
theorem ajZ:aK ["name","number","low","high"] ["name","number","low","high"] (au jM):=gC
include T eU jN in
theorem afP(F:jh K "check_number" "check_number" jM f fd):aZ P w K mg base (AU P) true 2 f fd ["name","number","low","high"] (rE fL):=by
 refine F.f' ajZ Am gD
 ·obtain⟨nm,n,l,h,rfl,_⟩:=h;rfl
 ·obtain⟨nm,n,l,h,rfl,hn,hl,hh,q⟩:=h;refine⟨_,(A8 (Bp (Cv (Bn (BK eU (Ij (Jb Ba))))) (A8 (ZD jN.m jN.e (AB (XJ (U4 (Nr Bv) (Qu (U4 (Nr Bm) (Qu (U4 (Nr Bg) yh))))))))))),?_⟩;refine⟨_,rfl,_,rfl,_,rfl,l,n,h,rfl,?_⟩;refine⟨_,rfl,?_⟩;refine a9 Fw (λh1=>?_)
  ·have h1:inR l n h=false:=(Bool.not_eq_true' _).mp h1;rw[h1]at q;have z1:=Va (i:=l);have z2:=Va (i:=h);have w1:(D7 " lies between ").length=14:=by decide+kernel
   have w2:(D7 " and ").length=5:=by decide+kernel
   have w3:=nG;refine⟨_,rfl, .inl ⟨nm,rfl,aE A3,nm,rfl,aE ?_,_,rfl,aE ?_,_,rfl, .inr ⟨l,rfl,z1.1,_,rfl,aE ?_,_,rfl,aE ?_,_,rfl, .inr ⟨h,rfl,z2.1,_,rfl,aE ?_,aE ?_,iR,?_⟩⟩⟩⟩
   ·rw[len_app];lia
   ·rw[len_app,len_app];lia
   ·rw[len_app,len_app,len_app];lia
   ·rw[len_app,len_app,len_app,len_app];lia
   ·rw[len_app,len_app,len_app,len_app,len_app];lia
   ·rw[len_app,len_app,len_app,len_app,len_app];lia
   ·exact q
  ·have h1:inR l n h=true:=by
    have h1:¬(!(inR l n h))=true:=h1;simpa using h1
   rw[h1]at q;exact q
variable(bZ:GH mg "WORTH_MOST" (.int 999999))
variable(kY:bI P w K mg base true 2 "is_word" ["text"] ym)
variable(cx:Er K mg "BadNear" d7)
theorem akb:aK ["x","y","price"] ["x","y","price"] (au gS):=gC
include T eU bZ kY cx in
theorem asf(F:jh K "check_near_form" "check_near_form" gS f fd):aZ P w K mg base (AU P) true 3 f fd ["x","y","price"] (yn d7):=by
 refine F.f' akb Am gD
 ·obtain⟨x,y,p,rfl,_⟩:=h;rfl
 ·obtain⟨x,y,p,rfl,hx,hy,q⟩:=h;have bad:i5 x y p=false->∀H',av H H'->E (.ref d7) none H':=λe=>by rw[e]at q;exact q
  have good:i5 x y p=true->∀H',av H H'->Q .de H':=λe=>by rw[e]at q;exact q
  refine⟨_,(AS (nc (CO (Cg (Cv (Bn (N6 kY))) (EL (Cv (Bn (Vr kY))))))) (AS (nc avC) (A8 (Bp (Cv (Bn (BK eU (Ao ai (abH Bm))))) (A8 (ZD cx.m cx.e (AB (XJ (Qu (U4 (Nr (Jc bZ)) yh)))))))))),?_⟩;refine⟨_,rfl,x,rfl,hx,λH1 s1=>⟨_,rfl,?_⟩⟩;refine a9 Fw (λh1=>?_)
  ·have h1:(!(uC x))=true:=h1;exact⟨iR,bad (by simp[i5,(Bool.not_eq_true' _).mp h1]) H1 s1⟩
  have h1:¬(!(uC x))=true:=h1;have h1:uC x=true:=by simpa using h1
  refine⟨_,rfl,y,rfl,hy,λH2 s2=>⟨_,rfl,?_⟩⟩;have s2:=Bl s2;refine a9 He (λh2=>?_)
  ·have h2:(!(uC y))=true:=h2;exact⟨iR,bad (by simp[i5,(Bool.not_eq_true' _).mp h2]) H2 s2⟩
  have h2:¬(!(uC y))=true:=h2;have h2:uC y=true:=by simpa using h2
  refine⟨_,rfl,_,rfl,rfl,_,rfl,?_⟩;refine a9 Rp (λh3=>?_)
  ·have h3:x=y:=by simpa using h3
   exact⟨iR,bad (by simp[i5,h3]) H2 s2⟩
  have h3:¬x=y:=by simpa using h3
  refine⟨_,rfl,0,p,999999,rfl,_,rfl,?_⟩;refine a9 Zt (λh4=>?_)
  ·have h4:(!(inR 0 p 999999))=true:=h4;have z1:=Va (i:=999999);have w1:(D7 "the price of a near form lies between 0 and ").length=44:=by decide+kernel
   have w3:=nG;refine⟨_,rfl,aE ?_, .inr ⟨999999,rfl,z1.1,_,rfl,aE ?_,aE ?_,iR,?_⟩⟩
   ·rw[len_app];lia
   ·rw[len_app,len_app];lia
   ·rw[len_app,len_app];lia
   ·exact bad (by simp[i5,(Bool.not_eq_true' _).mp h4]) H2 s2
  ·have h4:¬(!(inR 0 p 999999))=true:=h4;have h4:inR 0 p 999999=true:=by simpa using h4
   exact good (by simp[i5,h1,h2,h3,h4]) H2 s2
variable(iX:GH mg "NEAR_MOST" (.int 60))
variable(fu:bI P w K mg base true 3 "check_near_form" ["x","y","price"] (yn d7))
theorem fM:aK ["near","prices","x","y","price"] ["near"] (au iD):=gC
include T cx iX fu in
theorem ard(F:jh K "near_prices" "near_prices" iD f fd):aZ P w K mg base (AU P) true 4 f fd ["near"] (rF d7):=by
 refine F.f' fM Am gD
 ·obtain⟨a,xs,fs,rfl,_⟩:=h;rfl
 ·obtain⟨a,xs,fs,rfl,ha,ht,v_,q⟩:=h;have bad:bY fs=false->∀H',av H H'->E (.ref d7) none H':=λe=>by rw[e]at q;exact q
  have good:bY fs=true->∀H' d,av H H'->H d=none->H' d=some (.dT MJ)->Q (.ref d) H':=λe=>by rw[e]at q;exact q
  have hu:=hr.units;have hu:(Bc (Dj "near_prices" (au iD))).units+1<cLine:=by lia
  refine⟨_,(AS (Bp (Cb oC (C9 RB) (Jc iX)) (A8 (ZD cx.m cx.e (AB (XJ (Qu (xC (Nr (Jc iX))))))))) (AS (AZ (1) fM.nd kP) (AS (k_ (Kt (Bs (Af (2) fM.nd) (Bs (Af (3) fM.nd) (DJ (Af (4) fM.nd))))) (AS (BR (NU fu (Ij ZM))) (AS (nc (Bx (qI (CU RG) (pv 1)))) (A8 (ZZ Ba (CU RG) (pv 4)))))) (A8 (Az Ba))))),?_⟩;refine⟨_,rfl,a,_,rfl, .inl (.of ha),_,_,rfl,rfl,_,rfl,?_⟩;refine a9 Fw (λh1=>?_)
  ·have h1:(60:Int)<(xs.length:Int):=by simpa using h1
   rw[ht.1]at h1;have z1:=Va (i:=60);have w1:(D7 "there are at most ").length=18:=by decide+kernel
   have w2:(D7 " near forms").length=11:=by decide+kernel
   have w3:=nG;refine⟨_,rfl,aE ?_, .inr ⟨60,rfl,z1.1,_,rfl,aE ?_,_,rfl,aE ?_,aE ?_,iR,?_⟩⟩
   ·rw[len_app];lia
   ·rw[len_app,len_app];lia
   ·rw[len_app,len_app,len_app];lia
   ·rw[len_app,len_app,len_app];lia
   ·exact bad (by have:¬fs.length<=60:=(by lia);simp[bY,this]) H (.refl H)
  have h1:¬(60:Int)<(xs.length:Int):=by simpa using h1
  rw[ht.1]at h1;refine λd hd=>?_
  have had:H a≠none:=by rw[ha];intro z;cases z
  have ed:a≠d:=aG ha hd;refine⟨_,rfl,a,rfl,⟨xs, .of (by rw[aq ed];exact ha)⟩,?_⟩;refine br (xs:=xs) (λi σ H'=>(∃u v w,σ=[sR a,sR d,u,v,w])/\H' d=some (.dT ((Hx i).map mL))/\av H H'/\((Hx i).all F2=true)/\((Hx i).map my).Nodup) ?_ ?_ ?_ ?_
  ·exact⟨⟨_,_,_,rfl⟩,ae,Aa hd,rfl, .nil⟩
  ·rintro i σ H' hi ⟨_,_,s1,_⟩;exact .of (Bh ha)
  ·rintro i x σ H' hx ⟨⟨u,v,w,rfl⟩,hD,s1,cc,Js⟩;have hi:i<fs.length:=by rw[<-ht.1];exact(AM hx).1
   have hf:fs[i]?=some fs[i]:=by simp[hi]
   generalize fs[i]=f0 at hf;obtain⟨t,zY,vX⟩:=ht.2 i f0 hf;rw[hx]at zY;cases zY;obtain⟨x,y,p⟩:=f0;have hm:(x,y,p)∈fs:=B7 hf;obtain⟨mB,BI⟩:=v_.2 _ hm;refine⟨t,_,rfl, .of (Bh vX),rfl,_,_,rfl,_,_,rfl,_,_,rfl,rfl,?_⟩;refine⟨_,rfl,_,rfl,_,rfl,x,y,p,rfl,mB,BI,?_⟩;refine a9 He (λh2=>?_)
   rotate_left
   ·have h2:F2 (x,y,p)=false:=by simpa[F2]using h2
    exact λH2 s2=>bad (alL hf h2) H2 (Bl s2)
   have h2:F2 (x,y,p)=true:=h2;intro H2 s2;have Ut:=Bl s2;have m6:=BY hD;refine⟨_,rfl,_,rfl,aE A9,λp1 PB=>?_⟩;have n1:d≠p1:=aG m6 PB;refine⟨_,rfl,d,_,rfl, .t (k:=my (x,y,p)) (by rw[aq n1];exact m6) ae,_,rfl,?_⟩;refine a9 Rp (λh3=>?_)
   ·obtain⟨v3,h3⟩:=Option.isSome_iff_exists.mp h3;exact⟨iR,bad (aeq hf (aiY h3)) _ (Ut.eA (Ut.free PB))⟩
   have h3:bH ((Hx i).map mL) (my (x,y,p))=none:=by simpa using h3
   have s3:av H (DT H2 p1 (.tup [.str x, .str y])):=Ut.eA (Ut.free PB);refine⟨_,rfl,_,rfl,_,rfl,_,rfl,aE A9,λp2 BX=>?_⟩;have FC:upd H2 p1 (.tup [.str x, .str y]) d=some (.dT ((Hx i).map mL)):=by rw[aq n1];exact m6
   have n2:d≠p2:=aG FC BX;have hlen:((Hx i).map mL).length<sizeLine:=bb (by rw[List.length_map,List.length_take];lia);refine⟨d,_,rfl, .t (k:=my (x,y,p)) (by rw[aq n2];exact FC) ae hlen,?_⟩;refine⟨⟨_,_,_,rfl⟩,?_,?_,?_,?_⟩
   ·rw[ae,ux _ h3,asb hf];rfl
   ·exact(s3.eA (s3.free BX)).eA hd
   ·rw[List.take_succ,hf,List.all_append,cc];simp[h2]
   ·rw[List.take_succ,hf,List.map_append];have:=afb h3;refine List.nodup_append.mpr ⟨Js,AA,?_⟩;intro a1 Ct b1 kI e;have kI:b1=my (x,y,p):=by simpa using kI
    rw[e,kI]at Ct;exact this Ct
  ·rintro σ H' ⟨⟨u,v,w,rfl⟩,hD,s1,cc,Js⟩;rw[ht.1,List.take_length]at hD cc Js;refine⟨_,rfl,good ?_ H' d s1 hd hD⟩;have:fs.length<=60:=by lia
   simp[bY,this,cc,Js]
variable(ke:GH mg "PART_MOST" (.int 100))
variable(cL:bI P w K mg base true 2 "check_number" ["name","number","low","high"] (rE fL))
variable(iH:bI P w K mg base true 4 "near_prices" ["near"] (rF d7))
variable(Tc:Hm K aQ)
theorem aln:aK ["self","same","out","into","least","part","near"] ["self","same","out","into","least","part","near"] (au bG):=gC
include T bZ ke cL iH Tc in
theorem agi(F:ip K "__init__" "Terms.__init__" bG f fd):aZ P w K mg base (AU P) true 5 f fd ["self","same","out","into","least","part","near"] (ue aQ fL d7):=by
 refine F.f' aln Am gD
 ·obtain⟨x,dx,n,nv,xs,fs,rfl,_⟩:=h;rfl
 ·obtain⟨x,dx,n,nv,xs,fs,rfl,hx,xK,hnv,v_,q⟩:=h;have bad:jJ n=false->E (.ref fL) none H:=λe=>by rw[e]at q;exact q H .refl
  refine⟨_,(AS (BR (NU cL (Ao eI (VN Ba)))) (AS (BR (NU cL (Ao eI (VN Bm)))) (AS (BR (NU cL (Ao eI (VN Bg)))) (AS (BR (NU cL (Ao eI (VN BP)))) (AS (BR (NU cL (Ao eI (HQ (Ao ai (AB (Jc ke))))))) (ZL (k8 (zr (AS (HX BP) (AS (HX DK) (AQ (HX (Zy Χ (Dr af) (OR (AB Ca)))) (A8 (HX (W4 iH hX.pass)))))))))))))),?_⟩;refine⟨_,rfl,"same",n.same,1,999999,rfl,by decide+kernel,by lia,by lia,?_⟩;refine a9 Fw (λh1=>bad (by simp[jJ,h1]));refine⟨_,rfl,"out",n.out,0,999999,rfl,by decide+kernel,by lia,by lia,?_⟩;refine a9 He (λh2=>bad (by simp[jJ,h2]));refine⟨_,rfl,"into",n.into,0,999999,rfl,by decide+kernel,by lia,by lia,?_⟩;refine a9 Rp (λh3=>bad (by simp[jJ,h3]));refine⟨_,rfl,"least",n.least,1,999999,rfl,by decide+kernel,by lia,by lia,?_⟩;refine a9 Zt (λh4=>bad (by simp[jJ,h4]));refine⟨_,rfl,"part",n.part,1,100,rfl,by decide+kernel,by lia,by lia,?_⟩;refine a9 (λh5=>?_) (λh5=>bad (by simp[jJ,h5]));have cc:jJ n=true:=by simp[jJ,h1,h2,h3,h4,h5]
  rw[cc]at q;have hl:∀k:Nat,k<10->k<1000:=λk h=>by lia
  refine⟨_,rfl,_,rfl,x,aQ,dx,_,rfl,hx,Tc.cl,Tc.same,AN,?_⟩;refine⟨_,rfl,_,rfl,x,aQ,dx,_,rfl,ae,Tc.cl,Tc.out,?_,?_⟩
  ·exact hl _ (by have:=aY "same" (.int n.same) [];simp at this;lia)
  refine⟨_,rfl,_,rfl,x,aQ,dx,_,rfl,ae,Tc.cl,Tc.into,?_,?_⟩
  ·exact hl _ (aqY (aY _ _ _) (by have:=aY "same" (.int n.same) [];simp at this;lia))
  refine⟨_,rfl,_,rfl,x,aQ,dx,_,rfl,ae,Tc.cl,Tc.least,?_,?_⟩
  ·show([("same", .int n.same),("out", .int n.out),("into", .int n.into)]:List (Str×V)).length<1000;simp
  refine⟨_,rfl,_,rfl,x,aQ,dx,_,rfl,ae,Tc.cl,Tc.part,?_,?_⟩
  ·show([("same", .int n.same),("out", .int n.out),("into", .int n.into),("least", .int n.least)]:List (Str×V)).length<1000;simp
  rw[gL,gL,gL,gL,ano];have b5:SameBut x H (Hh (.ins aQ dx QS)):=SameBut.refl.upd;refine⟨λσ H'=>σ=[sR x,sI n.same,sI n.out,sI n.into,sI n.least,sI n.part,some nv]/\∃l,H' x=some (.ins aQ dx (t8 QS))/\SameBut x H H'/\H' l=some (.lst xs)/\eF H' xs fs/\H l=none,?_,?_⟩
  ·refine⟨_,rfl,_,rfl,?_⟩;rcases hnv with⟨rfl,rfl,rfl⟩|⟨a,rfl,ha,Uu⟩
   ·refine j1 ?_;refine⟨aE A9,λl mh=>?_⟩;have n1:x≠l:=aG ae mh;refine⟨_,rfl,x,aQ,dx,_,rfl,by rw[aq n1,ae],Tc.cl,Tc.near,by simp[oF],rfl,l,ae,?_,?_, .nil,?_⟩
    ·exact(b5.laid (ZG mh)).upd
    ·rw[aq V4,ae]
    ·exact ZG mh
   ·refine a9 N7 (λ_=>?_);have n0:a≠x:=jC ha hx (by intro z;cases z);refine⟨_,rfl,a,xs,rfl, .inl (.of (by rw[aq n0];exact ha)),λl mh=>?_⟩;have n1:x≠l:=aG ae mh;have b6:SameBut x H (DT (Hh (.ins aQ dx QS)) l (.lst xs)):=b5.laid (ZG mh);refine⟨_,rfl,x,aQ,dx,_,rfl,by rw[aq n1,ae],Tc.cl,Tc.near,by simp[oF],rfl,l,ae,b6.upd,?_,?_,?_⟩
    ·rw[aq V4,ae]
    ·exact Uu.but b6.upd hx
    ·exact ZG mh
  ·rintro σ H' ⟨rfl,l,tw,sb,WK,Uu,hln⟩;refine⟨_,rfl,x,aQ,dx,_,_,rfl,tw,Tc.cl,Tc.near,ars n l,l,xs,fs,rfl,WK,Uu,v_,?_⟩;refine a9 (λh6=>?_) (λh6=>?_)
   ·rw[if_pos rfl,A7 h6]at q;intro H2 d s2 hd hD;have b2:=sb.same s2;have hdn:=sb.free tw hd;refine⟨_,rfl,x,aQ,dx,_,rfl,BY tw,Tc.cl,Tc.Hn,?_,?_⟩
    ·have:=aY "near" (.ref l) (oF n);have e5:(oF n).length=5:=rfl;exact hl _ (by lia)
    ·have nl:l≠x:=jC WK tw (by intro z;cases z);have nd:d≠x:=jC hD (BY tw) (by intro z;cases z);have adM:dx≠x:=jC xK hx (by intro z;cases z);refine q _ l d b2.upd ⟨?_,?_,?_,?_,?_⟩ hln hdn
     ·rw[ae,ajK]
     ·rw[aq adM];exact b2 _ _ adM xK
     ·rw[aq nl];exact BY WK
     ·exact Uu.but (SameBut.upd (λb u n e=>s2 b u e)) tw
     ·rw[aq nd];exact hD
   ·rw[if_pos rfl,A6 h6]at q;exact λH2 s2=>q H2 (sb.same s2)
theorem je:aK ["self","x","y","price"] ["self","x","y"] (au eQ):=gC
include T Tc in
theorem anL(F:ip K "pair_worth" "Terms.pair_worth" eQ f fd):aZ P w K mg base (AU P) true 1 f fd ["self","x","y"] (yt aQ):=by
 refine F.f' je Am gD
 ·obtain⟨t,x,y,n,fs,dx,l,d,xs,rfl,_⟩:=h;rfl
 ·obtain⟨t,x,y,n,fs,dx,l,d,xs,rfl,T1,q⟩:=h;have hu:=hr.units;have hu:(Bc (Dj "Terms.pair_worth" (au eQ))).units+1<cLine:=by lia
  refine⟨_,arN,?_⟩;refine⟨_,rfl,_,rfl,rfl,_,rfl,?_⟩;refine a9 KY (λh=>?_)
  ·have h:x=y:=by simpa using h
   have q:=q H (.refl H);rw[show dS n.same fs x y=some n.same by simp[dS,h]]at q;exact⟨_,rfl,t,aQ,dx,_,_,rfl,T1.ob,Tc.cl,Tc.same,acz n l d,q⟩
  have h:¬x=y:=by simpa using h
  refine⟨_,rfl,t,aQ,dx,_,_,rfl,T1.ob,Tc.cl,Tc.Hn,awi n l d,d,rfl, .inr ⟨_, .inl T1.di⟩,_,rfl,_,rfl,aE A9,λp hp=>?_⟩;have nd:d≠p:=aG T1.di hp;have q:=E8 (Ew (o:= .tup [.str x, .str y]) hp);refine⟨_, .t (k:=[.inr x, .inr y]) (by rw[aq nd];exact T1.di) ae,?_⟩;rw[xJ];have T2:lF (Ea p (.tup [.str x, .str y])) aQ t n fs dx l d xs:=⟨Bt hp T1.ob,Bt hp T1.own,Bt hp T1.li,T1.tr.same Of,Bt hp T1.di⟩
  cases e:eP fs x y with
  |none=>
   rw[show dS n.same fs x y=none by simp[dS,h,e]]at q;refine⟨_,rfl,_,rfl,?_⟩;exact j1 q
  |some v=>
   rw[show dS n.same fs x y=some (n.same-v) by simp[dS,h,e]]at q;refine⟨_,rfl,_,rfl,?_⟩;refine a9 N7 (λ_=>?_);exact⟨_,rfl,t,aQ,dx,_,_,rfl,T2.ob,Tc.cl,Tc.same,acz n l d,_,rfl,_,_,rfl,rfl,q⟩
theorem aek:aK ["numbers"] ["numbers"] (au lP):=gC
include T in
theorem ajA(F:jh K "greatest" "greatest" lP f fd):aZ P w K mg base (AU P) true 1 f fd ["numbers"] mP:=by
 refine F.f' aek Am gD
 ·obtain⟨a,os,rfl,_⟩:=h;rfl
 ·obtain⟨a,os,rfl,ha,hl,q⟩:=h;refine⟨_,(A8 (Az (aqi K i9 (by exact rfl) T.LW (alq (show bx ["numbers"] (au lP) _ ["number"] [] []from FA) (E7 Bv) (λ_ _ _ _ _=>(Af (0) (show(["number"]:List Str).Nodup by decide+kernel))) (λ_ _ _ _ _=>(@DI _ _ _ (Bx (QU Bv)))) (λ_ _ _ _ _=>(pv 0)))))),?_⟩;refine⟨_,rfl,a,rfl,⟨_, .of ha⟩,λD hD=>?_⟩;refine jy (xs:=os.map bu) (λi ys bK H'=>(∃u,bK=[u])/\ys=((os.take i).filterMap id).map V.int/\H' D=some (.lst ys)/\av H H') ⟨⟨_,rfl⟩,rfl,ae,Aa hD⟩ ?_ ?_ ?_
  ·rintro i ys bK H' _ ⟨_,_,_,s1⟩;exact .of (Bh ha)
  ·rintro i x ys bK H' hx ⟨⟨u,rfl⟩,rfl,pX,s1⟩;have hi:i<os.length:=by have:=(AM hx).1;simpa using this
   have ho:os[i]?=some os[i]:=by simp[hi]
   generalize os[i]=o at ho;have ex:x=bu o:=by
    rw[List.getElem?_map,ho]at hx;exact(Aw hx).symm
   subst ex;have iO:(((os.take i).filterMap id).map V.int).length<sizeLine:=bb (by
    have:=Ζ id (os.take i);rw[List.length_take]at this;rw[List.length_map]
    lia)
   have e1:os.take (i+1)=os.take i++[o]:=by rw[List.take_succ,ho];rfl
   refine⟨_,rfl,_,rfl,?_⟩;cases o with
   |none=>
    refine a9 (λhh=>absurd hh (by simp[bu])) (λ_=>?_);exact⟨⟨_,rfl⟩,by rw[e1];simp,pX,s1⟩
   |some v=>
    refine a9 Kb (λhh=>absurd (by simp[bu]) hh);exact⟨_,rfl,pX,iO,⟨_,rfl⟩,by rw[e1];simp[bu],ae,MF hD⟩
  ·rintro ys bK H' ⟨_,rfl,pX,s1⟩;rw[List.length_map,List.take_length]at pX;refine⟨D,os.filterMap id,rfl, .of pX,?_⟩;rw[afM];exact q H' s1
theorem agj:aK ["number","price"] ["number","price"] (au CM):=gC
include T in
theorem alk(F:jh K "less" "less" CM f fd):aZ P w K mg base (AU P) true 1 f fd ["number","price"] yC:=by
 refine F.f' agj Am gD
 ·obtain⟨o,p,rfl,_⟩:=h;rfl
 ·obtain⟨o,p,rfl,q⟩:=h;refine⟨_,asO,?_⟩;refine⟨_,rfl,_,rfl,?_⟩;cases o with
  |none=>
   refine j1 ?_;exact q
  |some v=>
   refine a9 (λhh=>absurd hh (by simp[bu])) (λ_=>?_);exact⟨_,rfl,_,rfl,_,_,rfl,rfl,q⟩
theorem apA:aK ["worth","brought"] ["worth","brought"] (au gA):=gC
include T in
theorem ahj(F:jh K "begun_or_gone_on" "begun_or_gone_on" gA f fd):aZ P w K mg base (AU P) true 1 f fd ["worth","brought"] Ce:=by
 refine F.f' apA Am gD
 ·obtain⟨w,b,rfl,_⟩:=h;rfl
 ·obtain⟨w,b,rfl,q⟩:=h;refine⟨_,(AS (lE (Bx awr)) (AS (Bp (CO (Cg (Bx (FR Ba)) (EL (Fg Ba ai)))) (A8 (Az Bv))) (A8 (Az (CY Bv (pv 1)))))),?_⟩;refine⟨_,rfl,_,rfl,?_⟩;cases w with
  |none=>
   refine j1 ?_;exact q
  |some w=>
   refine a9 (λhh=>absurd hh (by simp[bu])) (λ_=>?_);refine⟨_,rfl,_,rfl,?_⟩;cases b with
   |none=>
    refine j1 ?_;refine j1 ?_;exact⟨_,rfl,q⟩
   |some b=>
    refine a9 (λhh=>absurd hh (by simp[bu])) (λ_=>?_);refine⟨_,rfl,_,_,rfl,rfl,_,rfl,?_⟩;refine a9 Dg (λhh=>?_)
    ·have hh:b<0:=by simpa using hh
     simp only[Kq,hh,if_true]at q;exact⟨_,rfl,q⟩
    ·have hh:¬b<0:=by simpa using hh
     simp only[Kq,hh,if_false]at q;exact⟨_,rfl,_,rfl,_,_,rfl,rfl,q⟩
variable(fN:bI P w K mg base true 1 "greatest" ["numbers"] mP)
variable(lY:bI P w K mg base true 1 "less" ["number","price"] yC)
variable(Rc:DQ K az)
theorem cC:aK ["self","ended","above","row","j","worth"] ["self","ended","above"] (au d6):=gC
include T fN lY Rc in
theorem afd(F:ip K "brought_behind" "Trails.brought_behind" d6 f fd):aZ P w K mg base (AU P) true 2 f fd ["self","ended","above"] (rM az):=by
 refine F.f' cC Am gD
 ·obtain⟨x,e,a,dx,te,tb,o,p,m,f,g,rfl,_⟩:=h;rfl
 ·obtain⟨x,e,a,dx,te,tb,o,p,m,f1,g,rfl,hx,he,ha,hm,q⟩:=h;refine⟨_,(AS (AZ (3) cC.nd axA) (qD (DB (wM K) (Ey (Bs (Af (4) cC.nd) (DJ (Af (5) cC.nd)))) (A8 (BR (E6 Bg (AB (BK fN (AB (Dr (HQ (Ao (BK lY (XD (QM (GL BP)))) (AB (BK lY (XD (Bd Bg (pv 4))))))))))))))))),?_⟩;refine⟨aE A9,λr Jt=>?_⟩;refine⟨_,rfl,e,rfl,⟨_, .of (Bt Jt he)⟩,?_⟩;have hl:=bM m f1;refine uG (xs:=EJ f1) (λi σ H'=>(∃u v,σ=[sR x,sR e,sR a,sR r,u,v])/\av H H'/\H' r=some (.lst (y_ (i+1)))) ?_ ?_ ?_ ?_
  ·exact⟨⟨_,_,rfl⟩,Aa Jt,by rw[ae];simp[cO,tJ,bu,List.range_succ]⟩
  ·rintro i σ H' _ ⟨_,s1,_⟩;exact .of QX
  ·rintro i v T' σ H' hv ⟨⟨u,u2,rfl⟩,s1,BG⟩ hT;have hi:i<m:=by have:=(AM hv).1;lia
   rw[bN hi]at hv;cases hv;have s2:av H (NA T' (.tup [.int i,bu (f1 i)])):=Bl qJ;have wu:=Fq (o:= .tup [.int i,bu (f1 i)]) hT BG;refine⟨T',_,rfl, .of ae,rfl,_,_,rfl,_,_,rfl,rfl,?_⟩;generalize upd H' T' (.tup [.int i,bu (f1 i)])=H2 at s2 wu;have at1:uc (JZ g) ((i:Int)+1)=some (bu gq):=by
    have:((i:Int)+1)=((i+1:Nat):Int):=by lia
    rw[this];exact ar nk
   have at2:uc (y_ (i+1)) (i:Int)=some (bu (pF f1 i)):=ar nk;refine⟨_,rfl, .inl ⟨rfl,_, .of wu⟩,_,rfl,_,rfl,_,rfl,_,_,rfl,rfl,a,_,_,_,rfl,rfl, .of (BY ha),at1,_,rfl,x,az,dx,_,_,rfl,BY hx,Rc.cl,Rc.out,adV o p te tb,g (i+1),o,rfl,_,rfl,_,rfl,r,_,_,_,rfl,rfl, .of wu,at2,_,rfl,x,az,dx,_,_,rfl,BY hx,Rc.cl,Rc.into,Hz o p te tb,pF f1 i,p,rfl,aE A9,λL hL=>⟨L,[f1 i,bL gq o,apO p],rfl,ae,AA,λH3 s3=>?_⟩⟩;have s4:=(Ew (o:= .lst [bu (f1 i),bu (bL gq o),bu (apO p)]) hL).trans s3;exact⟨r,_,_,rfl,rfl,Cu wu,bb (by rw[bM];lia),⟨_,_,rfl⟩,(GP s4).eA Jt,by rw[ae,nM (i+1)];rfl⟩
  ·rintro σ H' ⟨⟨u,v,rfl⟩,s1,BG⟩;rw[hl]at BG;exact⟨_,rfl,q H' r s1 Jt BG⟩
variable(eX:bI P w K mg base true 1 "begun_or_gone_on" ["worth","brought"] Ce)
variable(cQ:ff P w K mg base true 2 az "brought_behind" ["self","ended","above"] (rM az))
theorem dj:aK ["self","worths","terms","width","row","above","ended"] ["self","worths","terms"] (au fo):=gC
include T Tc Rc eX cQ in
theorem aoE(F:ip K "__init__" "Trails.__init__" fo f fd):aZ P w K mg base (AU P) true 4 f fd ["self","worths","terms"] (rP az aQ):=by
 refine F.f' dj Am gD
 ·obtain⟨x,dx,w,t,c,as,f,n,m,rfl,_⟩:=h;rfl
 ·obtain⟨x,dx,w,t,c,as,f1,n,m,rfl,hx,xK,hw,TA,TF,hn,hm,q⟩:=h;obtain⟨nu,dt,l,d,vs,T1,e1,e2,e3,e4⟩:=TF;have WL:w≠x:=jC hw hx (by intro z;cases z);have Uv:t≠x:=λz=>by
   have h1:=T1.ob;rw[z,hx]at h1;have h2:=Eu (λo=>match o with|some (HO.ins _ _ fs)=>fs.length| _=>0) h1;simp[yo]at h2
  refine⟨_,(adZ (adZ (AQ (AZ (3) dj.nd (Zy (Cb oC atc ai) (C9 (AB NK)) ai)) (AQ (HX qL) (AQ (HX (Dr (AB (Cy ahw axA (GL Bg))))) (A8 (Ir (Af (4) dj.nd) (AQ (JR (5) dj.nd (IW (vE ai))) (AQ (VA (6) dj.nd (show bx ["self","worths","terms","width","row","above","ended"] (au fo) _ ["j","worth"] [5] ["above"]from FA) (Τ K) (λ_ _ _ _ _=>(Ey (Bs (Af (0) (show(["j","worth","above"]:List Str).Nodup by decide+kernel)) (DJ (Af (1) (show(["j","worth","above"]:List Str).Nodup by decide+kernel)))))) (λ_ _ _ _ _=>(BK eX (HR (AB (QM Bv)))))) (AQ (BR (E6 KC (AB Ca))) (A8 (BR (E6 KC (AB (JH Bv cQ (V6 Ca)))))))))))))))),?_⟩;refine⟨λσ H1=>σ=[sR x,sR w,sR t,none,none,none,none]/\H1=upd H x (.ins az dx (aeg "out")),?_,?_⟩
  ·refine⟨_,rfl,t,aQ,dt,_,_,rfl,T1.ob,Tc.cl,Tc.out,l_out nu l d,_,rfl,x,az,dx,_,rfl,hx,Rc.cl,Rc.out,AN,rfl,?_⟩;rw[e2]
  rintro σ H1 ⟨rfl,rfl⟩;refine⟨λσ H1=>σ=[sR x,sR w,sR t,none,none,none,none]/\H1=upd H x (.ins az dx Oo),?_,?_⟩
  ·refine⟨_,rfl,t,aQ,dt,_,_,rfl,by rw[aq Uv];exact T1.ob,Tc.cl,Tc.into,apI nu l d,_,rfl,x,az,dx,_,rfl,ae,Rc.cl,Rc.into,?_,rfl,?_⟩
   ·have:=aY "out" (.int c.out) [];simp at this
    lia
   ·rw[gL,e3]
  rintro σ H1 ⟨rfl,rfl⟩;refine⟨λσ H1=>∃wd:Int,σ=[sR x,sR w,sR t,sI wd,none,none,none]/\H1=upd H x (.ins az dx Oo)/\(0<n->wd=(m:Int))/\0<=wd/\wd<=1000,?_,?_⟩
  ·have tO:upd H x (.ins az dx Oo) w=some (.lst Dt):=by rw[aq WL];exact hw
   have yN:=TA.len;refine⟨_,rfl,w,_,rfl, .inl (.of tO),_,_,rfl,rfl,_,rfl,?_⟩;refine a9 Dg (λhh=>?_)
   ·have hh:0<n:=by
     have:(0:Int)<((EH V.ref).length:Int):=by simpa using hh
     rw[List.length_map]at this
     lia
    obtain⟨a,Ct,PD,Yt⟩:=TA.at hh;have Sr:a≠x:=jC Yt hx (by intro z;cases z);have ha4:upd H x (.ins az dx Oo) a=some (.lst (EJ (f1 0))):=by rw[aq Sr];exact Yt
    refine⟨_,rfl,w,_,0,_,rfl,rfl, .of tO,U9 PD,a,_,rfl, .inl (.of ha4),_,rfl,rfl,λ_=>by rw[bM],by rw[bM];lia,by rw[bM];lia⟩
   ·have hh:n=0:=by
     have:¬(0:Int)<((EH V.ref).length:Int):=by simpa using hh
     rw[List.length_map]at this
     lia
    exact⟨_,rfl,rfl,λz=>by lia,by lia,by lia⟩
  rintro σ H1 ⟨wd,rfl,rfl,hwd,hw0,hw9⟩;refine⟨λσ H1=>∃e,σ=[sR x,sR w,sR t,sI wd,none,none,none]/\H1 x=some (.ins az dx (bE "ending" (.ref e) (qH "into")))/\SameBut x H H1/\H e=none/\H1 e=some (.lst []),?_,?_⟩
  ·refine⟨aE A9,λe he=>?_⟩;have zZ:SameBut x H (Hh (.ins az dx Oo)):=SameBut.refl.upd;have abK:x≠e:=aG ae he;have IY:=YJ ae he;refine⟨_,rfl,x,az,dx,_,rfl,by rw[aq abK,ae],Rc.cl,Rc.i6,?_,e,rfl,ae,(zZ.laid IY).upd,IY,by rw[aq (Ay abK),ae]⟩;have a1:=zt "into";have a2:=aY "out" (.int c.out) [];simp at a2
   lia
  rintro σ H1 ⟨e,rfl,mB,zZ,IY,CQ⟩;refine⟨λσ H2=>∃b ab,σ=[sR x,sR w,sR t,sI wd,none,none,none]/\H2 x=some (.ins az dx Oh)/\SameBut x H H2/\H2 e=some (.lst [])/\H b=none/\e≠b/\H2 b=some (.lst [.ref ab])/\(0<n->H2 ab=some (.lst (JZ (mS 0))))/\ab≠e/\ab≠b/\H ab=none,?_,?_⟩
  ·refine⟨aE A9,λl1 mh=>⟨_,rfl,_,_,rfl,rfl,l1,_,_,rfl,rfl,ae,by lia,by lia,aE (by simp;lia),λab Iu=>⟨aE A9,λb hb=>?_⟩⟩⟩;have s1:av H1 (DT (DT (Ra l1 (.lst [.de])) ab (.lst (FJ (wd+1).toNat [V.de]).flatten)) b (.lst [.ref ab])):=((Aa mh).trans (Aa Iu)).trans (Aa hb);have kI:H1 b=none:=((Aa mh).trans (Aa Iu)).free hb;have z9:=Bh mB;have nxb:x≠b:=aG mB kI;have Mj:ab≠b:=aG ae hb;refine⟨_,rfl,x,az,dx,_,rfl,z9,Rc.cl,Rc.ka,?_,b,ab,rfl,by rw[ae,aoF],(zZ.same s1).upd,?_,YJ mB kI,aG CQ kI,?_,λh0=>?_,?_,Mj,YJ mB ((Aa mh).free Iu)⟩
   ·have a0:=aY "ending" (.ref e) (qH "into");have a1:=zt "into";have a2:=aY "out" (.int c.out) [];simp at a2
    lia
   ·have:e≠x:=jC CQ mB (by intro z;cases z);rw[aq this];exact Bh CQ
   ·rw[aq (Ay nxb),ae]
   ·have abN:ab≠x:=λz=>by rw[z]at Iu;rw[(Aa mh) _ _ mB]at Iu;cases Iu
    rw[aq abN,aq Mj,ae,hwd h0]
    congr 1
    have:((m:Int)+1).toNat=m+1:=by lia
    rw[this]
    congr 1
    apply List.ext_getElem?;intro k;by_cases hk:k<m+1
    ·rw[bN hk,ji];simp[bu,hk]
    ·rw[FI (by simp;lia),FI (by rw[bM];lia)]
   ·exact Ay (aG ((Aa mh) _ _ CQ) Iu)
  clear mB zZ CQ H1;rintro σ H1 ⟨b,ab,rfl,mB,zZ,CQ,Yw,Yx,kI,Lb,Ss,Mj,Gd⟩;refine⟨_,rfl,w,rfl,⟨_, .of (zZ _ _ WL hw)⟩,?_⟩;refine br (xs:=EH V.ref) (λi σ H'=>(∃u1 u2 u3,σ=[sR x,sR w,sR t,sI wd,u1,u2,u3])/\H' x=some (.ins az dx Oh)/\SameBut x H H'/\∃(es:List Addr)(bs:List V)(ab:Addr),H' e=some (.lst RL)/\fE H' es (VH f1) i m/\(∀a∈es,H a=none/\a≠e/\a≠b/\a≠x)/\H' b=some (.lst (bs++[.ref ab]))/\bs.length=i/\(0<n->H' ab=some (.lst axQ))/\ab≠e/\ab≠b/\H ab=none/\∃bz:List Addr,bs=bz.map V.ref/\∀k a,bz[k]?=some a->H' a=some (.lst zD)/\a≠e/\a≠b/\H a=none) ?_ ?_ ?_ ?_
  ·exact⟨⟨_,_,_,rfl⟩,mB,zZ,[],[],ab,CQ,⟨rfl,λi a h=>by simp at h⟩,(λa h=>by cases h),kI,rfl,Lb,Ss,Mj,Gd,[],rfl,λk a h=>by simp at h⟩
  ·rintro i σ H' _ ⟨_,_,sb,_⟩;exact .of (sb _ _ WL hw)
  ·clear mB zZ CQ kI Lb Ss Mj Gd ab H1;rintro i v σ H' hv ⟨⟨u1,u2,u3,rfl⟩,mB,zZ,es,bs,ab,CQ,TE,OS,kI,Lc,Lb,Ss,Mj,Gd,bz,Su,BZ⟩;have yN:=TA.len;have hi:i<n:=by have:=(AM hv).1;rw[List.length_map]at this;lia
   obtain⟨ra,Jt,BG,wu⟩:=TA.at hi;rw[BG]at hv;cases hv;have nrx:ra≠x:=jC wu hx (by intro z;cases z);have OT:=zZ _ _ nrx wu;have FG:=Lb A3;refine⟨λσ H2=>σ=[sR x,sR w,sR t,sI wd,sR ra,sR ab,u3]/\H2=H',?_,?_⟩
   ·exact⟨_,rfl,x,az,dx,_,_,rfl,mB,Rc.cl,Rc.ka,JQ c.out c.into,_,rfl,b,_,_,_,rfl,rfl, .of kI,aby _ _,rfl,rfl⟩
   rintro σ H' ⟨rfl,rfl⟩;refine⟨λσ H2=>∃D,σ=[sR x,sR w,sR t,sI wd,sR ra,sR ab,sR D]/\av H' H2/\H' D=none/\H2 D=some (.lst axS),?_,?_⟩
   ·refine⟨_,rfl,ra,rfl,⟨_, .of OT⟩,λD hD=>?_⟩;refine rL (xs:=EJ (f1 i)) (λj ys bK H2=>(∃w1 w2,bK=[w1,w2,sR ab])/\ys=cO j (Oq i)/\H2 D=some (.lst ys)/\av H' H2) ⟨⟨_,_,rfl⟩,rfl,ae,Aa hD⟩ ?_ ?_ ?_
    ·rintro j ys bK H2 _ ⟨_,_,_,s2⟩;exact .of (BY OT)
    ·rintro j y T2 ys bK H2 hy ⟨⟨w1,w2,rfl⟩,rfl,m6,s2⟩ Ml;have hj:j<m:=by have:=(AM hy).1;rw[bM]at this;exact this
     rw[bN hj]at hy;cases hy;have s3:av H' (DT H2 T2 (.tup [.int j,bu (f1 i j)])):=GP ZQ;have FC:=Fq (o:= .tup [.int j,bu (f1 i j)]) Ml m6;refine⟨T2,_,rfl, .of ae,rfl,_,_,rfl,_,_,rfl,rfl,?_⟩;refine qg ?_;refine⟨_,rfl,_,rfl,_,rfl,ab,_,_,_,rfl,rfl, .of (Dd FG),ar nk,f1 i j,Bq f1 c.out c.into i j,rfl,FC,bb (by rw[bM];lia),⟨_,_,rfl⟩,by rw[nM];rfl,ae,s3.eA hD⟩
    ·rintro ys bK H2 ⟨_,rfl,m6,s2⟩;rw[bM]at m6;exact⟨D,rfl,s2,hD,m6⟩
   rintro σ H2 ⟨D,rfl,s2,Ld,m6⟩;have z9:=BY mB;have PN:=BY CQ;have yT:=BY kI;have awv:=BY FG;have nDx:D≠x:=Ay (aG mB Ld);have Yy:D≠e:=Ay (aG CQ Ld);have Yz:D≠b:=Ay (aG kI Ld);have nex:e≠x:=jC CQ mB (by intro z;cases z);have nbx:b≠x:=jC kI mB (by intro z;cases z);have abN:ab≠x:=jC FG mB (by intro z;cases z);have Le:=TE.len;have hD9:H D=none:=YJ mB Ld;have WN:=zZ.same s2;refine⟨λσ H3=>σ=[sR x,sR w,sR t,sI wd,sR ra,sR ab,sR D]/\H3=upd H2 e (.lst (es.map V.ref++[.ref D])),?_,?_⟩
   ·exact⟨_,rfl,x,az,dx,_,_,rfl,z9,Rc.cl,Rc.i6,QD c.out, .inl ⟨rfl,_, .of PN⟩,_,rfl,e,_,_,rfl,rfl,PN,bb (by rw[List.length_map];lia),rfl,rfl⟩
   rintro σ H3 ⟨rfl,rfl⟩;have PQ:upd H2 e (.lst (es.map V.ref++[.ref D])) x=some (.ins az dx Oh):=by rw[aq (Ay nex)];exact z9
   have Uw:upd H2 e (.lst (es.map V.ref++[.ref D])) b=some (.lst (bs++[.ref ab])):=by rw[aq (Ay Yx)];exact yT
   have OU:upd H2 e (.lst (es.map V.ref++[.ref D])) ab=some (.lst axQ):=by rw[aq Ss];exact awv
   have FC:upd H2 e (.lst (es.map V.ref++[.ref D])) D=some (.lst axS):=by rw[aq Yy];exact m6
   have Ju:upd H2 e (.lst (es.map V.ref++[.ref D])) e=some (.lst (es.map V.ref++[.ref D])):=ae;have WO:SameBut x H (DT H2 e (.lst (es.map V.ref++[.ref D]))):=WN.laid IY;have abG:∀k a,es[k]?=some a->upd H2 e (.lst (es.map V.ref++[.ref D])) a=some (.lst (EJ (Oq k))):=λk a hk=>by
    rw[aq (wG a).2.1];exact BY (TE.row k a hk)
   have aar:∀k a,bz[k]?=some a->upd H2 e (.lst (es.map V.ref++[.ref D])) a=some (.lst zD):=λk a hk=>by
    rw[aq (Y_ a).2.1];exact BY (Y_ a).1
   generalize upd H2 e (.lst (es.map V.ref++[.ref D]))=H3 at PQ Uw OU FC Ju WO abG aar;refine⟨_,rfl,x,az,dx,_,_,rfl,PQ,Rc.cl,Rc.ka,JQ c.out c.into, .inl ⟨rfl,_, .of Uw⟩,_,rfl,x,dx,_,rfl,PQ,auw c.out c.into e b,_,rfl,_,rfl,x,D,ab,dx,e,b,c.out,c.into,m,_,_,rfl,PQ,FC,OU,hm,λH4 r s4 r6 hr4=>?_⟩;have acw:r≠b:=Ay (aG Uw r6);have nre:r≠e:=Ay (aG Ju r6);refine⟨b,_,_,rfl,rfl,Cu Uw,bb (by rw[List.length_append];simp;lia),⟨_,_,_,rfl⟩,by rw[aq (Ay nbx)];exact Cu PQ,(WO.same s4).laid Yw,es++[D],bs++[.ref ab],r,by rw[aq Yx];rw[Cu Ju];simp,⟨by simp[Le],λk a hk=>?_⟩,λa ha=>?_,ae,by simp[Lc],λ_=>?_,nre,acw,WO.free PQ r6,bz++[ab],by simp[Su],λk a hk=>?_⟩
   ·by_cases h:k<i
    ·rw[Bi A3]at hk;rw[aq (wG a).2.2.1];exact Cu (abG k a hk)
    ·rw[Br A3]at hk;have xP:k-es.length=0:=by
      have:=(AM hk).1;simp at this
      lia
     rw[xP]at hk;have:D=a:=by simpa using hk
     subst this;rw[aq Yz];have:k=i:=by lia
     rw[this];exact Cu FC
   ·rcases List.mem_append.mp ha with ha|ha
    ·exact OS a ha
    ·have:a=D:=by simpa using ha
     rw[this];exact⟨hD9,Yy,Yz,nDx⟩
   ·rw[aq acw,hr4]
    congr 2
    unfold cO;apply List.map_congr_left;intro j _;rw[acq]
   ·have abo:bz.length=i:=by rw[Su,List.length_map]at Lc;exact Lc
    by_cases h:k<i
    ·rw[Bi A3]at hk;obtain⟨_,z1,z2,z3⟩:=Y_ a;exact⟨by rw[aq z2];exact Cu (aar k a hk),z1,z2,z3⟩
    ·rw[Br A3]at hk;have xP:k-bz.length=0:=by
      have:=(AM hk).1;simp at this
      lia
     rw[xP]at hk;have:ab=a:=by simpa using hk
     subst this;have:k=i:=by lia
     subst this;exact⟨by rw[aq Mj];exact Cu OU,Ss,Mj,Gd⟩
  ·rintro σ H' ⟨⟨u1,u2,u3,rfl⟩,z9,WN,es,bs,WQ,PN,TE,OS,yT,Lc,FG,aa7,aa8,PD,bz,Su,BZ⟩;rw[List.length_map,TA.len]at TE Lc FG;have abo:bz.length=n:=by rw[Su,List.length_map]at Lc;exact Lc
   refine q H' e b WN z9 ⟨es,PN,IY,TE,λa ha=>(OS a ha).1⟩ λWR=>⟨bz++[WQ],by rw[yT,Su];simp,Yw,⟨by simp[abo],λk a hk=>?_⟩,λa ha=>?_⟩
   ·by_cases h:k<n
    ·rw[Bi A3]at hk;exact(Y_ a).1
    ·rw[Br A3]at hk;have xP:k-bz.length=0:=by
      have:=(AM hk).1;simp at this
      lia
     rw[xP]at hk;have:WQ=a:=by simpa using hk
     subst this;have:k=n:=by lia
     subst this;exact FG WR
   ·rcases List.mem_append.mp ha with ha|ha
    ·obtain⟨k,hk,rfl⟩:=List.mem_iff_getElem.mp ha;exact(BZ k _ (by simp[hk])).2.2.2
    ·have:a=WQ:=by simpa using ha
     rw[this];exact PD
theorem ada:aK ["self","pair","brought"] ["self","pair"] (au iy):=gC
include T Rc in
theorem amE(F:ip K "goes_on" "Trails.goes_on" iy f fd):aZ P w K mg base (AU P) true 1 f fd ["self","pair"] (yK az):=by
 refine F.f' ada Am gD
 ·obtain⟨x,dx,e,b,es,bs,f,o,p,n,m,pr,i,j,rfl,_⟩:=h;rfl
 ·obtain⟨x,dx,e,b,es,bs,f1,o,p,n,m,pr,i,j,rfl,TR,Ek,hi,hj,q⟩:=h;refine⟨_,(AS (AZ (2) ada.nd (Bd avR (E5 Ba))) (A8 (Az (Z5 (@BJ _ _ _ _ _ _ (QU Bm) (by first|exact bq _ (AN) (AN)|rfl)) (Y2 (Fs Dy Bm ai)))))),?_⟩;obtain⟨ra,h1,h2,h3⟩:=Xw (show i<n+1 by lia);refine⟨_,rfl,x,az,dx,_,_,rfl,TR.ob,Rc.cl,Rc.ka,JQ o p,_,rfl,pr,_,_,_,rfl,rfl, .of Ek,AI (j:=0),b,_,_,_,rfl,rfl, .of TR.hb,ar h2,_,rfl,pr,_,_,_,rfl,rfl, .of Ek,AI (j:=1),ra,_,_,_,rfl,rfl, .of h3,ar (bN (show j<m+1 by lia)),?_⟩;refine⟨_,rfl,?_⟩;cases eB:Bq f1 o p i j with
  |none=>
   rw[eB]at q;exact⟨_,rfl,a9 (λhh=>absurd hh (by simp[bu])) λ_=>q⟩
  |some v=>
   rw[eB]at q;exact⟨_,rfl,a9 (λ_=>⟨_,rfl,_,_,rfl,rfl,q⟩) λhh=>absurd (by simp[bu]) hh⟩
theorem aiR:aK ["self","crossing","pair"] ["self","crossing","pair"] (au eR):=gC
include T Rc in
theorem amg(F:ip K "is_brought_by" "Trails.is_brought_by" eR f fd):aZ P w K mg base (AU P) true 1 f fd ["self","crossing","pair"] (Cz az):=by
 refine F.f' aiR Am gD
 ·obtain⟨x,dx,e,b,es,bs,f,o,p,n,m,cr,pr,i,j,k,l,rfl,_⟩:=h;rfl
 ·obtain⟨x,dx,e,b,es,bs,f1,o,p,n,m,cr,pr,i,j,k,l,rfl,TR,Mm,Ek,hi,hj,hk,hl,q⟩:=h;refine⟨_,(A8 (Az (Fs iP (Bd (IW awt) (E5 Bm)) (Bd avR (E5 Ba))))),?_⟩;obtain⟨ra,h1,h2,h3⟩:=Xw (show i<n+1 by lia);obtain⟨rb,g1,g2,g3⟩:=TR.te.at hk;refine⟨_,rfl,x,az,dx,_,_,rfl,TR.ob,Rc.cl,Rc.i6,MN p,_,rfl,pr,_,_,_,rfl,rfl, .of Ek,AI (j:=0),e,_,_,_,rfl,rfl, .of TR.he,ar g2,_,rfl,pr,_,_,_,rfl,rfl, .of Ek,AI (j:=1),rb,_,_,_,rfl,rfl, .of g3,ar (bN hl),?_⟩;refine⟨_,rfl,x,az,dx,_,_,rfl,TR.ob,Rc.cl,Rc.ka,JQ o p,_,rfl,cr,_,_,_,rfl,rfl, .of Mm,AI (j:=0),b,_,_,_,rfl,rfl, .of TR.hb,ar h2,_,rfl,cr,_,_,_,rfl,rfl, .of Mm,AI (j:=1),ra,_,_,_,rfl,rfl, .of h3,ar (bN (show j<m+1 by lia)),?_⟩;have Mn:∀a c:Option Int,decide (bu a=bu c)=decide (a=c):=λa c=>by cases a<;>cases c<;>simp[bu]
  refine⟨by cases dh f1 o p k l<;>cases Bq f1 o p i j<;>rfl,?_⟩;rw[Mn];exact q
theorem bC:aK ["self","crossing","i","j","brought","found"] ["self","crossing"] (au dC):=gC
include T lY Rc in
theorem aoK(F:ip K "crossings_before" "Trails.crossings_before" dC f fd):aZ P w K mg base (AU P) true 2 f fd ["self","crossing"] (uP az):=by
 refine F.f' bC Am gD
 ·obtain⟨x,dx,e,b,es,bs,f,o,p,n,m,cr,i,j,rfl,_⟩:=h;rfl
 ·obtain⟨x,dx,e,b,es,bs,f1,o,p,n,m,cr,i,j,rfl,TR,Mm,hi,hj,q⟩:=h;refine⟨_,(AQ (AZ (2) bC.nd xf) (AQ (AZ (3) bC.nd xf) (AQ (AZ (4) bC.nd (Bd (IW Bm) (pv 3))) (AQ (FX (5) bC.nd) (AQ (Bp (Hu (BK lY (XD (Bd (IW auY) (pv 3)))) (pv 4)) (A8 (BR (E6 DK (AB (CU (Jb auY))))))) (y6 (Bp (Hu (BK lY (XD (Bd (IW Bm) (ED Bg)))) (pv 4)) (A8 (BR (E6 DK (AB (CU (Ij (AB (ED Bg))))))))))))))),?_⟩;have Mn:∀a c:Option Int,decide (bu a=bu c)=decide (a=c):=λa c=>by cases a<;>cases c<;>simp[bu]
  obtain⟨ra,h1,h2,h3⟩:=Xw (show i<n+1 by lia);obtain⟨rb,g1,g2,g3⟩:=Xw (show i+1<n+1 by lia);refine⟨λσ H1=>σ=[sR x,sR cr,sI (((i+1:Nat):Int)),none,none,none]/\H1=H,⟨_,rfl,cr,_,_,_,rfl,rfl, .of Mm,AI (j:=0),rfl,rfl⟩,?_⟩;rintro σ H ⟨rfl,rfl⟩;refine⟨λσ H1=>σ=[sR x,sR cr,sI (((i+1:Nat):Int)),sI (((j+1:Nat):Int)),none,none]/\H1=H,⟨_,rfl,cr,_,_,_,rfl,rfl, .of Mm,AI (j:=1),rfl,rfl⟩,?_⟩;rintro σ H ⟨rfl,rfl⟩;refine⟨λσ H1=>σ=[sR x,sR cr,sI (((i+1:Nat):Int)),sI (((j+1:Nat):Int)),some (bu U'),none]/\H1=H,⟨_,rfl,x,az,dx,_,_,rfl,TR.ob,Rc.cl,Rc.ka,JQ o p,_,rfl,b,_,_,_,rfl,rfl, .of TR.hb,ar g2,_,rfl,rb,_,_,_,rfl,rfl, .of g3,ar (bN (show j+1<m+1 by lia)),rfl,rfl⟩,?_⟩;rintro σ H ⟨rfl,rfl⟩;refine⟨λσ H1=>∃r,σ=[sR x,sR cr,sI (((i+1:Nat):Int)),sI (((j+1:Nat):Int)),some (bu U'),sR r]/\av H H1/\H r=none/\H1 r=some (.lst []),⟨aE A9,λr hr=>⟨r,rfl,Aa hr,hr,ae⟩⟩,?_⟩;rintro σ H1 ⟨r,rfl,s1,r6,Jt⟩;refine⟨λσ H2=>∃us,σ=[sR x,sR cr,sI (((i+1:Nat):Int)),sI (((j+1:Nat):Int)),some (bu U'),sR r]/\av H H2/\H2 r=some (.lst us)/\gw H2 us (if bL Vk o=Bq f1 o p (i+1) (j+1)then[((i:Int),((j+1:Nat):Int))]else[]),?_,?_⟩
  ·have T1:=TR.keep s1;have ea:uc vn (((i+1:Nat):Int)-1)=some (.ref ra):=by
    rw[show((i+1:Nat):Int)-1=(i:Int) by lia];exact ar h2
   refine⟨_,rfl,x,az,dx,_,_,rfl,T1.ob,Rc.cl,Rc.ka,JQ o p,_,rfl,_,_,rfl,rfl,b,_,_,_,rfl,rfl, .of T1.hb,ea,_,rfl,ra,_,_,_,rfl,rfl, .of (Bh h3),ar (bN (show j+1<m+1 by lia)),?_⟩;refine⟨_,rfl,x,az,dx,_,_,rfl,T1.ob,Rc.cl,Rc.out,adV o p e b,Zk f1,o,rfl,?_⟩;refine⟨_,rfl,by cases bL Vk o<;>cases Bq f1 o p (i+1) (j+1)<;>rfl,_,rfl,?_⟩;rw[Mn];refine a9 Dg (λhh=>?_)
   ·have hh:bL Vk o=Bq f1 o p (i+1) (j+1):=of_decide_eq_true hh;rw[A7 hh];refine⟨_,rfl, .inl ⟨rfl,_, .of Jt⟩,_,rfl,_,_,rfl,rfl,_,rfl,aE A9,λt ht=>?_⟩;refine⟨r,_,_,rfl,rfl,Bt ht Jt,bb A9,_,rfl,(Bl RK).eA r6,ae,rfl,λk f hf=>?_⟩;have hk:k=0:=by
     have:=(AM hf).1;simp at this
     lia
    subst hk;have hf:((i:Int),((j+1:Nat):Int))=f:=by simpa using hf
    subst hf;refine⟨t,rfl,?_⟩;rw[aq (λz=>by subst z;rw[Jt]at ht;cases ht),ae];rw[show((i+1:Nat):Int)-1=(i:Int) by lia];rfl
   ·have hh:¬bL Vk o=Bq f1 o p (i+1) (j+1):=by simpa using hh
    rw[A6 hh];exact⟨[],rfl,s1,Jt, .nil⟩
  rintro σ H2 ⟨us,rfl,s2,BG,P2⟩;have T2:=Fz s2;have lus:us.length<=1:=by
   rw[P2.1];split<;>simp
  have eb:uc (JZ (Bq f1 o p (i+1))) (((j+1:Nat):Int)-1)=some (bu X7):=by
   rw[show((j+1:Nat):Int)-1=(j:Int) by lia];exact ar (bN (show j<m+1 by lia))
  refine⟨λσ H3=>∃us,σ=[sR x,sR cr,sI (((i+1:Nat):Int)),sI (((j+1:Nat):Int)),some (bu U'),sR r]/\av H H3/\H3 r=some (.lst us)/\gw H3 us (Eh f1),?_,?_⟩
  ·refine⟨_,rfl,x,az,dx,_,_,rfl,T2.ob,Rc.cl,Rc.ka,JQ o p,_,rfl,b,_,_,_,rfl,rfl, .of T2.hb,ar g2,_,rfl,_,_,rfl,rfl,rb,_,_,_,rfl,rfl, .of (BY g3),eb,?_⟩;refine⟨_,rfl,x,az,dx,_,_,rfl,T2.ob,Rc.cl,Rc.into,Hz o p e b,QW f1,p,rfl,?_⟩;refine⟨_,rfl,by cases bL X7 p<;>cases Bq f1 o p (i+1) (j+1)<;>rfl,_,rfl,?_⟩;rw[Mn];refine a9 Dg (λhh=>?_)
   ·have hh:bL X7 p=Bq f1 o p (i+1) (j+1):=of_decide_eq_true hh;refine⟨_,rfl, .inl ⟨rfl,_, .of BG⟩,_,rfl,_,rfl,_,_,rfl,rfl,aE A9,λt ht=>?_⟩;have s3:=Ew (o:= .tup [.int ((i+1:Nat):Int), .int (((j+1:Nat):Int)-1)]) ht;have YD:t≠r:=λz=>by subst z;rw[BG]at ht;cases ht
    refine⟨r,_,_,rfl,rfl,Dd BG,bb A3,_,rfl,(GP s3).eA r6,ae,?_⟩;unfold bF;rw[A7 hh];refine((P2.same s3).append ⟨rfl,λk f hf=>?_⟩).cT λa ys ha=>?_
    ·have hk:k=0:=by
      have:=(AM hf).1;simp at this
      lia
     subst hk;have hf:(((i+1:Nat):Int),(j:Int))=f:=by simpa using hf
     subst hf;refine⟨t,rfl,?_⟩;rw[ae,show((j+1:Nat):Int)-1=(j:Int) by lia];rfl
    ·have ed:a≠r:=λz=>by subst z;rw[Dd BG]at ha;cases ha
     rw[aq ed];exact ha
   ·have hh:¬bL X7 p=Bq f1 o p (i+1) (j+1):=by simpa using hh
    refine⟨us,rfl,s2,BG,?_⟩;unfold bF;rw[A6 hh,List.append_nil];exact P2
  rintro σ H3 ⟨us,rfl,s3,wu,P3⟩;exact⟨_,rfl,q H3 r us s3 r6 wu P3⟩
variable(bh:ff P w K mg base true 1 az "is_brought_by" ["self","crossing","pair"] (Cz az))
variable(a8:ff P w K mg base true 2 az "crossings_before" ["self","crossing"] (uP az))
theorem ck:aK ["self","pair","crossing","ahead"] ["self","pair"] (au fH):=gC
include T Rc bh a8 in
theorem apf(F:ip K "pair_before" "Trails.pair_before" fH f fd):aZ P w K mg base (AU P) true 3 f fd ["self","pair"] (yL az):=by
 refine F.f' ck Am gD
 ·obtain⟨x,dx,e,b,es,bs,f,o,p,n,m,pr,i,j,rfl,_⟩:=h;rfl
 ·obtain⟨x,dx,e,b,es,bs,f1,o,p,n,m,pr,i,j,rfl,TR,Ek,hi,hj,hB,q⟩:=h;refine⟨_,(AS (AZ (2) ck.nd Ba) (AS asA (qD (mG (Cv (Bn (JH Bv bh RG))) (AS (AZ (2) ck.nd (Bd (JH Bv a8 mq) ai)) (A8 asA)))))),?_⟩;obtain⟨i,rfl⟩:∃i',i=i'+1:=by
   cases i with
   |zero=>exact BO (Yk f1 j) hB
   |succ i=>exact⟨i,rfl⟩
  obtain⟨j,rfl⟩:∃j',j=j'+1:=by
   cases j with
   |zero=>exact absurd (by unfold Bq;rfl) hB
   |succ j=>exact⟨j,rfl⟩
  refine⟨_,rfl,_,rfl,pr,_,_,_,rfl,rfl, .of Ek,AI (j:=0),_,_,rfl,rfl,_,rfl,pr,_,_,_,rfl,rfl, .of Ek,AI (j:=1),_,_,rfl,rfl,aE A9,λt ht=>?_⟩;refine⟨λmm σ H1=>∃(cr ah:Addr)(i2 j2:Nat),mm=i2+j2/\σ=[sR x,sR pr,sR cr,sR ah]/\av H H1/\H1 cr=some (.tup [.int ((i2+1:Nat):Int), .int ((j2+1:Nat):Int)])/\H1 ah=some (.tup [.int i2, .int j2])/\i2<n/\j2<m/\Bq f1 o p (i2+1) (j2+1)≠none/\c7 f1 o p (i2+1) (j2+1)=c7 f1 o p (i+1) (j+1),⟨i+j,pr,t,i,j,rfl,rfl,Aa ht,Bt ht Ek,?_,by lia,by lia,hB,rfl⟩,?_⟩
  ·rw[ae,show((i+1:Nat):Int)-1=(i:Int) by lia,show((j+1:Nat):Int)-1=(j:Int) by lia]
  rintro mm σ H1 ⟨cr,ah,i2,j2,rfl,rfl,s1,Mm,adP,Jn,WS,PR,aad⟩;have T1:=Fz s1;refine⟨_,rfl,x,dx,_,rfl,T1.ob,Mc o p e b,_,rfl,_,rfl,x,dx,e,b,es,bs,f1,o,p,n,m,cr,ah,i2+1,j2+1,i2,j2,rfl,T1,Mm,adP,by lia,by lia,Jn,WS,?_⟩;refine⟨_,rfl,?_⟩;by_cases hE:dh f1 o p i2 j2=Bq f1 o p (i2+1) (j2+1)
  ·rw[EK hE];refine gu ?_;refine⟨_,rfl,q H1 ah s1 ?_⟩;have:c7 f1 o p (i2+1) (j2+1)=(i2,j2):=by unfold c7;rw[A7 hE]
   rw[<-aad,this];exact adP
  ·rw[EI hE];refine j1 ?_;refine⟨_,λbK H' z=>z,?_⟩;obtain⟨i3,j3,c0,c1,c2,c3,c4,c5⟩:=aoc PR hE;refine⟨_,rfl,x,dx,_,rfl,T1.ob,D9 o p e b,_,rfl,x,dx,e,b,es,bs,f1,o,p,n,m,cr,i2,j2,rfl,T1,Mm,Jn,WS,λH2 r us s2 r6 BG P2=>?_⟩;obtain⟨t2,k1,k2⟩:=P2.2 0 _ c0;refine⟨r,_,_,_,rfl,rfl, .of BG,U9 k1,?_⟩;refine⟨_,rfl,t2,_,_,_,rfl,rfl, .of k2,AI (j:=0),_,_,rfl,rfl,_,rfl,t2,_,_,_,rfl,rfl, .of k2,AI (j:=1),_,_,rfl,rfl,aE A9,λt3 YG=>?_⟩;refine⟨i3+j3,by lia,t2,t3,i3,j3,rfl,rfl,Bl (GP (Aa YG)),Bt YG k2,?_,by lia,by lia,c4,by rw[c5,aad]⟩;rw[ae];show some (HO.tup [.int (((i3+1:Nat):Int)-1), .int (((j3+1:Nat):Int)-1)])=_;rw[show((i3+1:Nat):Int)-1=(i3:Int) by lia,show((j3+1:Nat):Int)-1=(j3:Int) by lia]
variable(cy:ff P w K mg base true 1 az "goes_on" ["self","pair"] (yK az))
variable(dM:ff P w K mg base true 3 az "pair_before" ["self","pair"] (yL az))
theorem abl:aK ["self","pair","way"] ["self","pair"] (au i7):=gC
include T Rc cy dM in
theorem aeV(F:ip K "way_to" "Trails.way_to" i7 f fd):aZ P w K mg base (AU P) true 4 f fd ["self","pair"] (CA az):=by
 refine F.f' abl Am gD
 ·obtain⟨x,dx,e,b,es,bs,f,o,p,n,m,pr,i,j,rfl,_⟩:=h;rfl
 ·obtain⟨x,dx,e,b,es,bs,f1,o,p,n,m,pr,i,j,rfl,TR,Ek,hi,hj,hn,q⟩:=h;refine⟨_,(AS (AZ (2) abl.nd (Dr S9)) (AS (mG (Bn (Β cy)) (A8 (BR (E6 Bm (AB (Β dM)))))) (pC (BR (aog K PySem.F.plainAttrs_list PySem.F.slot_list_reverse PySem.F.type_list_reverse afN Bm))))),?_⟩;refine⟨_,rfl,aE A9,λw hw=>?_⟩;refine⟨λmm σ H1=>∃(us:List V)(A:List (Nat×Nat))(i2 j2:Nat),mm=i2/\σ=[sR x,sR pr,sR w]/\av H H1/\H1 w=some (.lst us)/\gw H1 us ((A++[(i2,j2)]).map aN)/\i2<n/\j2<m/\A.length+i2<=i/\fj f1 o p i i j=fj f1 o p i2 i2 j2++A.reverse,⟨i,_,[],i,j,rfl,rfl,Aa hw,ae,⟨rfl,λk g hg=>?_⟩,hi,hj,AA,AA⟩,?_⟩
  ·have hk:k=0:=by
    have:=(AM hg).1;simp at this
    lia
   subst hk;have hg:aN (i,j)=g:=by simpa using hg
   subst hg;exact⟨pr,rfl,Bt hw Ek⟩
  rintro i2 σ H1 ⟨us,A,_,j2,rfl,rfl,s1,tO,P1,Jn,WS,hA,Lf⟩;have T1:=Fz s1;obtain⟨t,zY,vX⟩:=P1.last A9;rw[List.map_append,List.map_singleton,oY]at vX;have hlen:us.length<=1001:=by have:=P1.1;simp at this;lia
  refine⟨_,rfl,x,dx,_,rfl,T1.ob,Iq o p e b,_,rfl,_,rfl,w,_,_,_,rfl,rfl, .of tO,zY,x,dx,e,b,es,bs,f1,o,p,n,m,t,i2,j2,rfl,T1,vX,by lia,by lia,?_⟩;refine⟨_,rfl,?_⟩;refine a9 Dg (λhh=>?_)
  ·obtain⟨c1,c2,c3⟩:=kX hh;have hl:=(lK f1 o p i2 j2 c1 c2).resolve_right c3;refine⟨_,λbK H' z=>z,?_⟩;refine⟨_,rfl, .inl ⟨rfl,_, .of tO⟩,_,rfl,x,dx,_,rfl,T1.ob,aha o p e b,_,rfl,_,rfl,w,_,_,_,rfl,rfl, .of tO,zY,x,dx,e,b,es,bs,f1,o,p,n,m,t,i2,j2,rfl,T1,vX,by lia,by lia,c3,λH2 r s2 hr=>?_⟩;have nrw:r≠w:=λz=>by subst z;rw[BY tO]at hr;cases hr
   refine⟨w,_,_,rfl,rfl,BY tO,bb A3,(Rt j2).1,hl.1,us++[.ref r],A++[(i2,j2)],_,(Rt j2).2,rfl,rfl,(Bl s2).eA hw,ae,?_,by lia,by lia,by simp;lia,?_⟩
   ·rw[List.map_append];refine((P1.same s2).append ⟨rfl,λk g hg=>?_⟩).cT λa ys ha=>?_
    ·have hk:k=0:=by
      have:=(AM hg).1;simp at this
      lia
     subst hk;have hg:aN ((Rt j2).1,(Rt j2).2)=g:=by simpa using hg
     subst hg;exact⟨r,rfl,hr⟩
    ·have ed:a≠w:=λz=>by subst z;rw[BY tO]at ha;cases ha
     rw[aq ed];exact ha
   ·rw[Lf,aca hh];simp
  ·have hh:¬ij (Bq f1 o p i2 j2)=true:=hh;refine⟨_,rfl, .inl ⟨rfl,_, .of tO⟩,w,us,rfl,rfl,tO,?_⟩;refine⟨_,rfl,q _ w us.reverse (MF hw) hw ae ?_⟩;have e:fj f1 o p i i j=(A++[(i2,j2)]).reverse:=by
    rw[Lf,ir hh];simp
   rw[e,List.map_reverse];refine⟨by rw[List.length_reverse,List.length_reverse,P1.1],λk g hg=>?_⟩;have hk:=(AM hg).1;rw[List.length_reverse]at hk;have hl:=P1.1;rw[Km hk]at hg;obtain⟨t3,k1,k2⟩:=P1.2 _ _ hg;refine⟨t3,by rw[Km A3,hl];exact k1,?_⟩;have ed:t3≠w:=λz=>by subst z;rw[tO]at k2;cases k2
   rw[aq ed];exact k2
variable(Fc:acB K aA)
theorem akG:aK ["self","worth","way","row","pairs"] ["self","worth","way","row","pairs"] (au gB):=gC
include T Fc in
theorem amA(F:ip K "__init__" "Finding.__init__" gB f fd):aZ P w K mg base (AU P) true 1 f fd ["self","worth","way","row","pairs"] (uQ aA):=by
 refine F.f' akG Am gD
 ·obtain⟨x,dx,a,r,p,w,rfl,_⟩:=h;rfl
 ·obtain⟨x,dx,a,r,p,w,rfl,hx,q⟩:=h;refine⟨_,(ZL (k8 (zr (A8 (HX BP))))),?_⟩;have a1:=aY "worth" (.int w) [];have a2:=aY "way" (.ref a) (amS "worth");have a3:=aY "row" (.ref r) (zl "way");simp only[List.length_nil]at a1;refine⟨_,rfl,_,rfl,x,aA,dx,_,rfl,hx,Fc.cl,Fc.worth,AN,?_⟩;refine⟨_,rfl,_,rfl,x,aA,dx,_,rfl,ae,Fc.cl,Fc.way,by lia,?_⟩;refine⟨_,rfl,_,rfl,x,aA,dx,_,rfl,ae,Fc.cl,Fc.row,by lia,?_⟩;refine⟨_,rfl,_,rfl,x,aA,dx,_,rfl,ae,Fc.cl,Fc.pairs,by lia,?_⟩;rw[gL,gL,gL,auM];exact q
theorem aeQ:aK ["finding"] ["finding"] (au ph):=gC
include T Fc in
theorem awJ(F:jh K "order_of" "order_of" ph f fd):aZ P w K mg base (AU P) true 1 f fd ["finding"] (uR aA):=by
 refine F.f' aeQ Am gD
 ·obtain⟨x,dx,a,r,p,w,us,ps,rfl,_⟩:=h;rfl
 ·obtain⟨x,dx,a,r,p,w,us,ps,rfl,hx,hp,PS,ed,q⟩:=h;refine⟨_,(A8 (Az (CU (Ao (vE KC) (AB (IW ai)))))),?_⟩;obtain⟨t,h1,h2⟩:=PS.first ed;refine⟨_,rfl,x,aA,dx,_,_,rfl,hx,Fc.cl,Fc.worth,aas w a r p,_,rfl,_,rfl,x,aA,dx,_,_,rfl,hx,Fc.cl,Fc.pairs,iT w a r p,p,_,_,_,rfl,rfl, .of hp,h1,aE A9,λk hk=>?_⟩;exact q _ k t (Aa hk) ae (Bt hk h2)
variable(gh:ff P w K mg base true 4 az "way_to" ["self","pair"] (CA az))
variable(lZ:oE P w K mg base true 1 "Finding" aA ["self","worth","way","row","pairs"] [] (uQ aA))
theorem gi:aK ["trails","worth","pairs","ends","way","row"] ["trails","worth","pairs"] (au fI):=gC
include T Rc gh lZ in
theorem asS(F:jh K "make_finding" "make_finding" fI f fd):aZ P w K mg base (AU P) true 6 f fd ["trails","worth","pairs"] (CB az aA):=by
 refine F.f' gi Am gD
 ·obtain⟨x,dx,e,b,es,bs,f,o,p,n,m,w,pr,us,ps,q0,rfl,_⟩:=h;rfl
 ·obtain⟨x,dx,e,b,es,bs,f1,o,p,n,m,w,pr,us,ps,q0,rfl,TR,Ek,PS,pW,h0,hn,F_,q⟩:=h;refine⟨_,(AQ (ahR (3) gi.nd (show bx ["trails","worth","pairs","ends","way","row"] (au fI) _ ["pair"] [0,1] ["trails","worth"]from FA) (E7 Bm) (λ_ _ _ _ _=>(Af (0) (show(["pair","trails","worth"]:List Str).Nodup by decide+kernel))) (λ_ _ _ _ _=>(@DI _ _ _ (Hu (Bd (Bd (Df Ba) (E5 Bv)) (E5 Bv)) (pv 2)))) (λ_ _ _ _ _=>(pv 0))) (AQ (AZ (4) gi.nd (JH Bv gh (AB (Bd Bg ai)))) (AQ (VA (5) gi.nd (show bx ["trails","worth","pairs","ends","way","row"] (au fI) _ ["i","j"] [0] ["trails"]from FA) (E7 BP) (λ_ _ _ _ _=>(Ey (Bs (Af (0) (show(["i","j","trails"]:List Str).Nodup by decide+kernel)) (DJ (Af (1) (show(["i","j","trails"]:List Str).Nodup by decide+kernel)))))) (λ_ _ _ _ _=>(Bd (Bd tS (pv 0)) (pv 1)))) (A8 (Az (Qp lZ (HR (Ao BP (Fv DK))))))))),?_⟩;have Lg:us.length=ps.length:=by have:=PS.1;simpa using this
  refine⟨λσ H1=>∃D vs,σ=[sR x,sI w,sR pr,sR D,none,none]/\av H H1/\H1 D=some (.lst vs)/\gw H1 vs ((ps.filter λq=>decide (dh f1 o p q.1 q.2=some w)).map aN),?_,?_⟩
  ·refine⟨_,rfl,pr,rfl,⟨_, .of Ek⟩,λD hD=>?_⟩;refine jy (xs:=us) (λk ys bK H'=>(∃u,bK=[u,sR x,sI w])/\gw H ys (((ps.take k).filter λq=>decide (dh f1 o p q.1 q.2=some w)).map aN)/\H' D=some (.lst ys)/\av H H'/\ys.length<=k) ⟨⟨_,rfl⟩, .nil,ae,Aa hD,AA⟩ ?_ ?_ ?_
   ·rintro k ys bK H' _ ⟨_,_,_,s1,_⟩;exact .of (Bh Ek)
   ·rintro k v ys bK H' hv ⟨⟨u,rfl⟩,P1,pX,s1,mh⟩;have hk:k<ps.length:=by rw[<-Lg];exact(AM hv).1
    have ek:ps[k]?=some ps[k]:=by simp[hk]
    have hm:=pW ps[k] (EZ hk);generalize ps[k]=g at ek hm;obtain⟨t,k1,k2⟩:=PS.2 k (aN g) (by rw[List.getElem?_map,ek];rfl);rw[hv]at k1;cases k1;have T1:=Fz s1;have kt:=Bh k2;obtain⟨rb,g1,g2,g3⟩:=T1.te.at hm.1;have et:ps.take (k+1)=ps.take k++[g]:=by rw[List.take_succ,ek];rfl
    refine⟨_,rfl,x,az,dx,_,_,rfl,T1.ob,Rc.cl,Rc.i6,MN p,_,rfl,t,_,_,_,rfl,rfl, .of kt,AI (j:=0),e,_,_,_,rfl,rfl, .of T1.he,ar g2,_,rfl,t,_,_,_,rfl,rfl, .of kt,AI (j:=1),rb,_,_,_,rfl,rfl, .of g3,ar (bN hm.2),?_⟩;have Mn:decide (bu (om g.1 g.2)=V.int w)=decide (dh f1 o p g.1 g.2=some w):=by cases dh f1 o p g.1 g.2<;>simp[bu]
    refine⟨_,rfl,by cases dh f1 o p g.1 g.2<;>rfl,_,rfl,?_⟩;rw[Mn];refine a9 Dg (λhh=>?_)
    ·refine⟨_,rfl,pX,bb A3,⟨_,rfl⟩,?_,ae,MF hD,by simp;lia⟩;rw[et,List.filter_append,List.map_append];refine P1.append ?_;rw[show[g].filter (λq=>decide (dh f1 o p q.1 q.2=some w))=[g] by rw[List.filter_cons,A7 hh];rfl];exact⟨rfl,λk3 g3 Ux=>by
      have hk3:k3=0:=by
       have:=(AM Ux).1;simp at this
       lia
      subst hk3;have Ux:aN g=g3:=by simpa using Ux
      subst Ux;exact⟨t,rfl,k2⟩⟩
    ·have hh:decide (dh f1 o p g.1 g.2=some w)=false:=by simpa using hh
     refine⟨⟨_,rfl⟩,?_,pX,s1,by lia⟩;rw[et,List.filter_append,show[g].filter (λq=>decide (dh f1 o p q.1 q.2=some w))=[] by rw[List.filter_cons,hh];rfl,List.append_nil];exact P1
   ·rintro ys bK H' ⟨_,P1,pX,s1,_⟩;rw[Lg,List.take_length]at P1;exact⟨D,ys,rfl,s1,pX,P1.same s1⟩
  rintro σ H1 ⟨D,vs,rfl,s1,pX,P1⟩;obtain⟨t0,k1,k2⟩:=P1.2 0 (aN q0) (by rw[List.getElem?_map,h0];rfl);have Lh:q0.1<n/\q0.2<m:=pW q0 (N_ (B7 h0)).1;refine⟨λσ H2=>∃wy iC,σ=[sR x,sI w,sR pr,sR D,sR wy,none]/\av H1 H2/\H1 wy=none/\H2 wy=some (.lst iC)/\gw H2 iC ((Es f1 q0.1 q0.1 q0.2).map aN),?_,?_⟩
  ·have T1:=TR.keep s1;exact⟨_,rfl,x,dx,_,rfl,T1.ob,aqs o p e b,_,rfl,D,_,_,_,rfl,rfl, .of pX,U9 k1,x,dx,e,b,es,bs,f1,o,p,n,m,t0,q0.1,q0.2,rfl,T1,k2,Lh.1,Lh.2,hn,λH2 wy iC s2 h2 h3 P2=>⟨wy,iC,rfl,s2,h2,h3,P2⟩⟩
  rintro σ H2 ⟨wy,iC,rfl,s2,aec,Ge,P2⟩;have CS:=P2.1;rw[List.length_map]at CS;have FZ:(Es f1 q0.1 q0.1 q0.2).length<=1001:=by
   have:=adI (f:=f1) (o:=o) (p:=p) q0.1 q0.1 q0.2
   lia
  have Sy:=D_ (f:=f1) (o:=o) (p:=p) q0.1 q0.1 q0.2 Lh.1 Lh.2;generalize fj f1 o p q0.1 q0.1 q0.2=W at P2 CS FZ Sy q;refine⟨λσ H3=>∃r,σ=[sR x,sI w,sR pr,sR D,sR wy,sR r]/\av H2 H3/\H2 r=none/\H3 r=some (.lst (W.map λq=>bu ze)),?_,?_⟩
  ·refine⟨_,rfl,wy,rfl,⟨_, .of Ge⟩,λD2 m6=>?_⟩;refine jy (xs:=iC) (λk ys bK H'=>(∃u v,bK=[u,v,sR x])/\ys=(W.take k).map (λq=>bu ze)/\H' D2=some (.lst ys)/\av H2 H') ⟨⟨_,_,rfl⟩,rfl,ae,Aa m6⟩ ?_ ?_ ?_
   ·rintro k ys bK H' _ ⟨_,_,_,s3⟩;exact .of (Dd Ge)
   ·rintro k v ys bK H' hv ⟨⟨u,v2,rfl⟩,rfl,FC,s3⟩;have hk:k<W.length:=by rw[<-CS];exact(AM hv).1
    have ek:W[k]?=some W[k]:=by simp[hk]
    have hm:=Sy W[k] (EZ hk);generalize W[k]=g at ek hm;obtain⟨t,k1,k2⟩:=P2.2 k (aN g) (by rw[List.getElem?_map,ek];rfl);rw[hv]at k1;cases k1;have T3:=Fz (Bl Vi);have kt:=Dd k2;obtain⟨rb,g1,g2,g3⟩:=T3.te.at hm.1;refine⟨t,_,rfl, .of kt,rfl,_,_,rfl,_,_,rfl,rfl,?_⟩;refine qg ?_;refine⟨_,rfl,x,az,dx,_,_,rfl,T3.ob,Rc.cl,Rc.i6,MN p,_,rfl,e,_,_,_,rfl,rfl, .of T3.he,ar g2,_,rfl,rb,_,_,_,rfl,rfl, .of g3,ar (bN hm.2),?_⟩;refine⟨FC,bb (by rw[List.length_map,List.length_take];lia),⟨_,_,rfl⟩,?_,ae,s3.eA m6⟩;rw[List.take_succ,ek];simp
   ·rintro ys bK H' ⟨_,rfl,FC,s3⟩;rw[CS,List.take_length]at FC;exact⟨D2,rfl,s3,m6,FC⟩
  rintro σ H3 ⟨r,rfl,s3,r6,wu⟩;refine⟨_,rfl,_,rfl,_,rfl,_,rfl,λy dy hy OW ed=>?_⟩;have s4:av H3 (wD y (.ins aA dy [])):=(Aa OW).eA hy;refine⟨y,dy,wy,r,pr,w,rfl,ae,?_⟩;refine⟨rfl,?_⟩;rw[gL];have s5:av H3 (wD y (.ins aA dy (K6 wy pr))):=(Aa OW).eA hy;have sH:=Bl Vi;exact q _ y dy wy r iC (sH.trans s5) (VG hy) (VG OW) (JP aec) ((Bl s2).free r6) ae (by rw[aq ed];exact ae) (CV (Dd Ge)) (P2.same (Ji s5)) (CV wu)
variable(Gc:aaL K aJ)
theorem amb:aK ["self"] ["self"] (au gT):=gC
include T Gc in
theorem agI(F:ip K "__init__" "Groups.__init__" gT f fd):aZ P w K mg base (AU P) true 1 f fd ["self"] (uS aJ):=by
 refine F.f' amb Am gD
 ·obtain⟨x,dx,rfl,_⟩:=h;rfl
 ·obtain⟨x,dx,rfl,hx,q⟩:=h;refine⟨_,(vI (HX kP)),?_⟩;have a1:=aY "leads" (.ref 0) [];simp only[List.length_nil]at a1;refine λdl Uy=>?_
  have n1:x≠dl:=aG hx Uy;refine⟨_,rfl,x,aJ,dx,_,rfl,by rw[aq n1];exact hx,Gc.cl,Gc.qv,AN,?_⟩;refine λdm Mo=>?_
  have n2:x≠dm:=λz=>by rw[z,ae]at Mo;cases Mo
  have Li:upd H dl (.dT []) dm=none:=by rw[aq (Ay n2)]at Mo;exact Mo
  have n3:dm≠dl:=λz=>by rw[z,ae]at Li;cases Li
  have adH:H dm=none:=by rw[aq n3]at Li;exact Li
  refine⟨_,rfl,x,aJ,dx,_,rfl,by rw[aq n2,ae],Gc.cl,Gc.members,by have:=aY "leads" (.ref dl) [];simp at this;lia,?_⟩;rw[afR];refine q _ (λa=>a=dl∨a=dm) ?_ ?_ ?_
  ·exact λb u hb e=>by
    rw[aq hb,aq (Fh adH),aq hb,aq (Fh Uy)];exact e
  ·rintro a (rfl|rfl)
   ·exact Uy
   ·exact adH
  ·refine⟨dx,dl,dm,[],[],λ_=>none,λ_=>none,ae,λz=>Rl n1 n2,⟨?_,?_, .inl rfl, .inr rfl,Ay n3,λp=>rfl,λp=>rfl,λp q a e=>(by cases e),λkv h=>(by cases h), .nil,λl ms e=>(by cases e),λp l e=>(by cases e),λl ms e=>(by cases e)⟩,λa b=>⟨False.elim,λ⟨l,e,_⟩=>(by cases e)⟩,Nat.le_refl _,Nat.le_refl _⟩
   ·rw[aq V4,aq (Ay n3),aq V4,ae]
   ·rw[aq (Ay n2),ae]
theorem amQ:aK ["self","pair"] ["self","pair"] (au jl):=gC
include T Gc in
theorem amc(F:ip K "has" "Groups.has" jl f fd):aZ P w K mg base (AU P) true 1 f fd ["self","pair"] (CC aJ):=by
 refine F.f' amQ Am gD
 ·obtain⟨x,t,p,S,E1,B,rfl,_⟩:=h;rfl
 ·obtain⟨x,t,p,S,E1,B,rfl,G,ht,q⟩:=h;have hu:=hr.units;have hu:(Bc (Dj "Groups.has" (au jl))).units+1<cLine:=by lia
  refine⟨_,(A8 (Az (@BJ _ _ _ _ _ _ (pA Ba) (by first|exact bq _ (AN) (AN)|rfl)))),?_⟩;obtain⟨dg,dl,dm,kl,km,ld,mm,hg,IZ,D,hE,Uz,PR⟩:=G;refine⟨_,rfl,_,rfl,x,aJ,dg,_,_,rfl,hg,Gc.cl,Gc.qv,IK dm,dl,_,rfl, .t (k:=bf p) D.hl ht,E8 ?_⟩;rw[hE];have:=D.lv p;cases e:ld p with
  |none=>
   rw[e]at this;have this:bH kl (bf p)=none:=this;rw[this];simp
  |some l=>
   rw[e]at this;obtain⟨t2,h1,_⟩:=this;rw[h1];simp
theorem akL:aK ["self","pair"] ["self","pair"] (au fU):=gC
include T Gc in
theorem alF(F:ip K "take_in" "Groups.take_in" fU f fd):aZ P w K mg base (AU P) true 1 f fd ["self","pair"] (yO aJ):=by
 refine F.f' akL Am gD
 ·obtain⟨x,t,p,S,E1,B,rfl,_⟩:=h;rfl
 ·obtain⟨x,t,p,S,E1,B,rfl,G,ht,hB,q⟩:=h;have hu:=hr.units;have hu:(Bc (Dj "Groups.take_in" (au fU))).units+1<cLine:=by lia
  refine⟨_,(A8 (Bp (Bx (aoV Ba (FO K))) (AS (Xu Ba (pv 1)) (A8 (Xu Ba (Dr S9)))))),?_⟩;obtain⟨dg,dl,dm,kl,km,ld,mm,hg,IZ,D,hE,Uz,PR⟩:=id G;refine⟨_,rfl,_,rfl,x,aJ,dg,_,_,rfl,hg,Gc.cl,Gc.qv,IK dm,dl,_,rfl, .t (k:=bf p) D.hl ht,_,rfl,?_⟩;have lv:=D.lv p;cases e:ld p with
  |some l=>
   rw[e]at lv;obtain⟨t2,h1,_⟩:=lv;rw[h1];refine gu ?_;refine q H S (.same (.refl H)) (apG A3);unfold Me;refine⟨λz=>Rl id ?_, .inl⟩;rintro⟨rfl,rfl⟩;rw[hE];exact⟨l,e,e⟩
  |none=>
   rw[e]at lv;have lv:bH kl (bf p)=none:=lv;rw[lv];refine j1 ?_;have nx:x≠dl:=λz=>IZ (z▸D.sl)
   have UA:x≠dm:=λz=>IZ (z▸D.sm)
   have WU:t≠dl:=λz=>by rw[z,D.hl]at ht;cases ht
   have ntm:t≠dm:=λz=>by rw[z,D.hm]at ht;cases ht
   refine⟨_,rfl,_,rfl,x,aJ,dg,_,_,rfl,hg,Gc.cl,Gc.qv,IK dm,_,rfl,dl,_,rfl, .t (k:=bf p) D.hl ht jT,?_⟩;refine⟨_,rfl,aE A9,λa ha=>?_⟩;have na:a≠dl:=λz=>by rw[z,ae]at ha;cases ha
   have Gd:H a=none:=by rw[aq na]at ha;exact ha
   have Sr:x≠a:=aG hg Gd;have aaq:dm≠a:=aG D.hm Gd;have nta:t≠a:=aG ht Gd;refine⟨_,rfl,x,aJ,dg,_,_,rfl,by rw[aq Sr,aq nx];exact hg,Gc.cl,Gc.members,L3 dm,_,rfl,dm,_,rfl, .t (k:=bf p) (by rw[aq aaq,aq (Ay D.ne)];exact D.hm) (by rw[aq nta,aq WU];exact ht) (bb A3),?_⟩;refine q _ (λy=>S y∨y=a) ⟨λy hy=>hy.imp id (λz=>by rw[z];exact Gd),λb o hb eb=>?_⟩ ?_
   ·rw[aq (λz:b=dm=>hb (by rw[z];exact D.sm)),aq (aG eb Gd),aq (λz:b=dl=>hb (by rw[z];exact D.sl))];exact eb
   refine⟨dg,dl,dm,_,_,_,_,by rw[aq UA,aq Sr,aq nx];exact hg,λz=>Rl IZ Sr,D.take (t:=t) (a:=a) e ht Gd ?_ ae ?_ ?_,λa1 b1=>?_,?_,?_⟩
   ·rw[aq D.ne,aq (Ay na),ae]
   ·rw[aq (Ay aaq),ae]
   ·intro b o h1 h2 eb;rw[aq h2,aq (aG eb Gd),aq h1];exact eb
   ·unfold Me;rw[hE];constructor
    ·rintro(⟨l,h1,h2⟩|⟨z1,z2⟩)
     ·exact⟨l,by rw[A6 (λz=>by rw[z,e]at h1;cases h1)];exact h1,by rw[A6 (λz=>by rw[z,e]at h2;cases h2)];exact h2⟩
     ·exact⟨p,by rw[A7 z1],by rw[A7 z2]⟩
    ·rintro⟨l,h1,h2⟩;by_cases z1:a1=p
     ·by_cases z2:b1=p
      ·exact .inr ⟨z1,z2⟩
      ·rw[A7 z1]at h1;rw[A6 z2]at h2;cases h1;obtain⟨ms,Ga⟩:=D.ml _ _ h2;have:=D.self _ _ Ga;rw[e]at this;cases this
     ·rw[A6 z1]at h1;by_cases z2:b1=p
      ·rw[A7 z2]at h2;cases h2;obtain⟨ms,Ga⟩:=D.ml _ _ h1;have:=D.self _ _ Ga;rw[e]at this;cases this
      ·rw[A6 z2]at h2;exact .inl ⟨l,h1,h2⟩
   ·exact RJ A3
   ·exact RJ A3
theorem cR:aK ["self","pair","other","lead","gone","moved","member"] ["self","pair","other"] (au fJ):=gC
include T Gc in
theorem apQ(F:ip K "unite" "Groups.unite" fJ f fd):aZ P w K mg base (AU P) true 1 f fd ["self","pair","other"] (uT aJ):=by
 refine F.f' cR Am gD
 ·obtain⟨x,t,u,p,q,S,E1,B,rfl,_⟩:=h;rfl
 ·obtain⟨x,t,u,p,q,S,E1,B,rfl,G,ht,Up,hp,hq,hB,qq⟩:=h;have hu:=hr.units;have Jv:(Bc uL).units<cLine:=by lia
  have hu:(Bc uL).units+1<cLine:=by lia
  refine⟨_,(AQ (nV (3) cR.nd) (AQ (AZ (4) cR.nd (Kf Bm)) (A8 (Bp (Cb (ahq K Jv) (pv 3) (pv 4)) (AQ (Bp (Fg (C9 (AB (Kf Bg))) (C9 (AB (Kf BP)))) (AQ (AZ (3) cR.nd (Kf Bm)) (A8 (nV (4) cR.nd)))) (AQ asP (AQ (DB (E7 DK) (Af (6) cR.nd) (A8 (Xu Ca (pv 3)))) (A8 (BR (wC K (Kf Bg))))))))))),?_⟩;obtain⟨dg,dl,dm,kl,km,ld,mm,hg,IZ,D,hE,Uz,PR⟩:=id G;obtain⟨l,Mp,_⟩:=(hE p p).mp hp;obtain⟨g,Mq,_⟩:=(hE q q).mp hq;obtain⟨tl,vl,AV⟩:∃tl,bH kl (bf p)=some (.ref tl)/\H tl=some (.tup WY):=by have:=D.lv p;rw[Mp]at this;exact this
  obtain⟨tg,vg,PU⟩:∃tg,bH kl (bf q)=some (.ref tg)/\H tg=some (.tup XZ):=by have:=D.lv q;rw[Mq]at this;exact this
  refine⟨λσ H1=>H1=H/\σ=[sR x,sR t,sR u,sR tl,none,none,none],⟨_,rfl,x,aJ,dg,_,_,rfl,hg,Gc.cl,Gc.qv,IK dm,_,rfl,dl,_,rfl,by have:=kO.t (k:=bf p) D.hl ht;rw[vl]at this;exact this,rfl,rfl⟩,?_⟩;rintro σ H1 ⟨rfl,rfl⟩;refine⟨λσ H2=>H2=H1/\σ=[sR x,sR t,sR u,sR tl,sR tg,none,none],⟨_,rfl,x,aJ,dg,_,_,rfl,hg,Gc.cl,Gc.qv,IK dm,_,rfl,dl,_,rfl,by have:=kO.t (k:=bf q) D.hl Up;rw[vg]at this;exact this,rfl,rfl⟩,?_⟩;rintro σ H2 ⟨rfl,rfl⟩;refine⟨_,rfl,_,rfl,tl,tg,_,_,rfl,rfl, .of AV, .of PU,rfl,rfl,_,rfl,?_⟩;rw[DS];by_cases Ed:l=g
  ·rw[EK Ed];refine gu ?_;refine qq _ (.same (.refl _)) (apG Bj);subst Ed;unfold rQ;rw[hE,hE,hE,hE,hE,Mp,Mq];constructor
   ·rintro(z|⟨z1,z2⟩)
    ·exact z
    ·have y1:ld a=some l:=by rcases z1 with⟨y,h1,h2⟩|⟨y,h1,h2⟩<;>(cases h2;exact h1)
     have y2:ld b=some l:=by rcases z2 with⟨y,h1,h2⟩|⟨y,h1,h2⟩<;>(cases h2;exact h1)
     exact⟨l,y1,y2⟩
   ·exact .inl
  rw[EI Ed];refine j1 ?_;obtain⟨m1,Gf⟩:=D.ml p l Mp;obtain⟨m2,E_⟩:=D.ml q g Mq;obtain⟨al,mC,SA,yN,P1,_⟩:∃a us,bH km (bf l)=some (.ref a)/\H2 a=some (.lst us)/\gw H2 us m1/\S a:=by have:=D.mv l;rw[Gf]at this;exact this
  obtain⟨ag,iC,UB,Lj,P2,_⟩:∃a us,bH km (bf g)=some (.ref a)/\H2 a=some (.lst us)/\gw H2 us m2/\S a:=by have:=D.mv g;rw[E_]at this;exact this
  have gl:∀{tt:Addr}{r:Pr},H2 tt=some (.tup Gi)->kO H2 dm (.ref tt) (bH km QA):=λh=>kO.t (k:=bf _) D.hm h
  have YI:∀{tt:Addr}{r:Pr},H2 tt=some (.tup Gi)->kO H2 dl (.ref tt) (bH kl QA):=λh=>kO.t (k:=bf _) D.hl h
  refine⟨λσ H3=>H3=H2/\∃l g tl tg p' q',σ=[sR x,sR t,sR u,sR tl,sR tg,none,none]/\l≠g/\H2 tl=some (.tup WY)/\H2 tg=some (.tup XZ)/\ld p'=some l/\ld q'=some g/\∀a b,rQ E1 p q a b↔rQ E1 p' q' a b,?_,?_⟩
  ·refine⟨_,rfl,x,aJ,dg,_,_,rfl,hg,Gc.cl,Gc.members,L3 dm,_,rfl,dm,_,rfl,by have:=gl AV;rw[SA]at this;exact this,al,_,rfl, .inl (.of yN),?_⟩;refine⟨_,rfl,x,aJ,dg,_,_,rfl,hg,Gc.cl,Gc.members,L3 dm,_,rfl,dm,_,rfl,by have:=gl PU;rw[UB]at this;exact this,ag,_,rfl, .inl (.of Lj),?_⟩;refine⟨_,_,rfl,rfl,_,rfl,?_⟩;refine a9 Kb (λ_=>?_)
   ·refine⟨λσ H3=>H3=H2/\σ=[sR x,sR t,sR u,sR tg,sR tg,none,none],⟨_,rfl,x,aJ,dg,_,_,rfl,hg,Gc.cl,Gc.qv,IK dm,_,rfl,dl,_,rfl,by have:=YI Up;rw[vg]at this;exact this,rfl,rfl⟩,?_⟩;rintro σ H3 ⟨rfl,rfl⟩;refine⟨_,rfl,x,aJ,dg,_,_,rfl,hg,Gc.cl,Gc.qv,IK dm,_,rfl,dl,_,rfl,by have:=YI ht;rw[vl]at this;exact this,rfl,g,l,tg,tl,q,p,rfl,Ay Ed,PU,AV,Mq,Mp,λa b=>ajR⟩
   ·exact⟨rfl,l,g,tl,tg,p,q,rfl,Ed,AV,PU,Mp,Mq,λa b=>Iff.rfl⟩
  rintro σ H3 ⟨rfl,l,g,tl,tg,p',q',rfl,Ed,AV,PU,Mp,Mq,hun⟩;obtain⟨m1,Gf⟩:=D.ml p' l Mp;obtain⟨m2,E_⟩:=D.ml q' g Mq;obtain⟨al,mC,SA,yN,P1,aab⟩:∃a us,bH km (bf l)=some (.ref a)/\H3 a=some (.lst us)/\gw H3 us m1/\S a:=by have:=D.mv l;rw[Gf]at this;exact this
  obtain⟨ag,iC,UB,Lj,P2,sag⟩:∃a us,bH km (bf g)=some (.ref a)/\H3 a=some (.lst us)/\gw H3 us m2/\S a:=by have:=D.mv g;rw[E_]at this;exact this
  have nlg:al≠ag:=λz=>Ed (D.inj l g al SA (by rw[UB,z]))
  have l1:=D.Bz (F8 l m1 Gf).1 (λr hr=>⟨l,((F8 l m1 Gf).2 r).mp hr⟩);have l2:=D.Bz (F8 g m2 E_).1 (λr hr=>⟨g,((F8 g m2 E_).2 r).mp hr⟩);have nx:x≠dl:=λz=>IZ (by rw[z];exact D.sl)
  have UA:x≠dm:=λz=>IZ (by rw[z];exact D.sm)
  have SD:al≠dl:=λz=>by rw[z,D.hl]at yN;cases yN
  have SE:al≠dm:=λz=>by rw[z,D.hm]at yN;cases yN
  have SF:ag≠dl:=λz=>by rw[z,D.hl]at Lj;cases Lj
  have OX:ag≠dm:=λz=>by rw[z,D.hm]at Lj;cases Lj
  have CS:=P2.1;refine⟨λσ H4=>H4=upd H3 dm (.dT YH)/\σ=[sR x,sR t,sR u,sR tl,sR tg,sR ag,none],?_,?_⟩
  ·exact⟨_,rfl,x,aJ,dg,_,_,rfl,hg,Gc.cl,Gc.members,L3 dm,dm,rfl, .inr ⟨km, .of D.hm⟩,_,rfl,dm,tg,km,bf g,_,rfl,rfl,D.hm,PU,UB,rfl,rfl⟩
  rintro σ H4 ⟨rfl,rfl⟩;refine⟨λσ H5=>(∃w,σ=[sR x,sR t,sR u,sR tl,sR tg,sR ag,w])/\∃xU,H5 dl=some (.dT xU)/\xU.length<=B/\(∀r,bH xU (bf r)=if r∈m2 then some (.ref tl)else bH kl QA)/\SameBut dl (Θ dm) H5,?_,?_⟩
  ·refine⟨_,rfl,ag,rfl,⟨_, .of (by rw[aq OX];exact Lj)⟩,?_⟩;refine br (xs:=iC) (λi σ H5=>(∃w,σ=[sR x,sR t,sR u,sR tl,sR tg,sR ag,w])/\∃xU,H5 dl=some (.dT xU)/\xU.length<=B/\(∀r,bH xU (bf r)=if r∈m2.take i then some (.ref tl)else bH kl QA)/\SameBut dl (Θ dm) H5) ?_ ?_ ?_ ?_
   ·exact⟨⟨_,rfl⟩,kl,by rw[aq D.ne];exact D.hl,Uz,λr=>AA, .refl⟩
   ·rintro i σ H5 _ ⟨_,xU,_,_,_,s5⟩;exact .of (s5 _ _ SF (by rw[aq OX];exact Lj))
   ·rintro i v σ H5 hv ⟨⟨w,rfl⟩,xU,h5,PV,OY,s5⟩;have hi:i<m2.length:=by rw[<-CS];exact(AM hv).1
    have ei:m2[i]?=some m2[i]:=by simp[hi]
    have jK:m2[i]∈m2:=EZ hi;generalize m2[i]=r0 at ei jK;obtain⟨tr,k1,k2⟩:=P2.2 i r0 ei;rw[hv]at k1;cases k1;have YD:tr≠dl:=λz=>by rw[z,D.hl]at k2;cases k2
    have apL:tr≠dm:=λz=>by rw[z,D.hm]at k2;cases k2
    have k5:=s5 tr _ YD (by rw[aq apL];exact k2);have g5:=s5 x _ nx (by rw[aq UA];exact hg);refine⟨_,rfl,_,rfl,x,aJ,dg,_,_,rfl,g5,Gc.cl,Gc.qv,IK dm,_,rfl,dl,_,rfl, .t (k:=bf r0) h5 k5 jT,⟨_,rfl⟩,_,ae,?_,λr=>?_,s5.upd⟩
    ·have pW:bH xU (bf r0)≠none:=by
      rw[OY];split
      ·simp
      ·have:=D.lv r0;rw[((F8 g m2 E_).2 r0).mp jK]at this;obtain⟨t0,z,_⟩:=this;rw[z];simp
     have:(putK xU (bf r0) (.ref tl)).length=xU.length:=by
      unfold putK;rw[iQ,A7 (by cases z:bH xU (bf r0)<;>simp_all),List.length_map]
     lia
    ·rw[jH,OY];have et:m2.take (i+1)=m2.take i++[r0]:=by rw[List.take_succ,ei];rfl
     rw[et];by_cases e:r=r0
     ·rw[A7 (by rw[e]),A7 (by simp[e])]
     ·rw[A6 Jh];by_cases e2:r∈m2.take i
      ·rw[A7 e2,A7 (by simp[e2])]
      ·rw[A6 e2,A6 (by simp[e,e2])]
   ·rintro σ H5 ⟨⟨w,rfl⟩,xU,h5,PV,OY,s5⟩;rw[CS,List.take_length]at OY;exact⟨⟨_,rfl⟩,xU,h5,PV,OY,s5⟩
  rintro σ H5 ⟨⟨w,rfl⟩,xU,h5,PV,OY,s5⟩;have WU:tl≠dl:=λz=>by rw[z,D.hl]at AV;cases AV
  have ake:tl≠dm:=λz=>by rw[z,D.hm]at AV;cases AV
  have g5:=s5 x _ nx (by rw[aq UA];exact hg);have m5:=s5 dm _ (Ay D.ne) ae;have abk:=s5 al _ SD (by rw[aq SE];exact yN);have ag5:=s5 ag _ SF (by rw[aq OX];exact Lj);have tl5:=s5 tl _ WU (by rw[aq ake];exact AV);have vd:bH YH (bf l)=some (.ref al):=by rw[nP,A6 (λz=>Ed Z6)];exact SA
  refine⟨_,rfl,x,aJ,dg,_,_,rfl,g5,Gc.cl,Gc.members,L3 dm,_,rfl,dm, .ref al,rfl,by have:=kO.t (k:=bf l) m5 tl5;rw[vd]at this;exact this, .inl ⟨rfl,_, .of abk⟩,_,rfl,al,ag,mC,iC,rfl,rfl,abk,ag5,?_,?_⟩
  ·have:=P1.1;exact aE A3
  have abd:x≠al:=λz=>IZ (by rw[z];exact aab)
  have Mr:∀b o,¬S b->H3 b=some o->upd H5 al (.lst (mC++iC)) b=some o:=λb o hb eb=>by
   rw[aq (λz=>hb (by rw[z];exact aab))];exact s5 b o (λz=>hb (by rw[z];exact D.sl)) (by rw[aq (λz=>hb (by rw[z];exact D.sm))];exact eb)
  refine qq _ ⟨λ_ h=> .inl h,Mr⟩ ?_;refine⟨dg,dl,dm,xU,ajB km,_,_,Mr x _ IZ hg,IZ,D.arn (tl:=tl) Ed Gf E_ SA P1 P2 yN AV OY (by rw[aq (Ay SD)];exact h5) (by rw[aq (Ay SE)];exact m5) ae ?_,λa b=>(hun a b).trans (ajx Ed Mp Mq (F8 g m2 E_).2 hE a b),PV,E3 (aao _ _) PR⟩;intro b o h1 h2 h3 eb;rw[aq h3];exact s5 b o h1 (by rw[aq h2];exact eb)
variable(jP:mg "sorted"=none)
theorem aqu:aK ["self"] ["self"] (au iE):=gC
include T Gc jP in
theorem aml(F:ip K "told" "Groups.told" iE f fd):aZ P w K mg base (AU P) true 1 f fd ["self"] (yP aJ):=by
 refine F.f' aqu Am gD
 ·obtain⟨x,S,E1,B,rfl,_⟩:=h;rfl
 ·obtain⟨x,S,E1,B,rfl,G,hB,q⟩:=h;refine⟨_,(A8 (Az (JF (show bx ["self"] (au iE) _ ["members"] [] []from FA) (anq H KC) (λ_ _ _ _ _=>(Af (0) (show(["members"]:List Str).Nodup by decide+kernel))) (λ_ _ _ _ _=>(qB (anK K) jP PyProof.Rows.Boot.«sorted» RB))))),?_⟩;obtain⟨dg,dl,dm,kl,km,ld,mm,hg,IZ,D,hE,Uz,PR⟩:=G;refine⟨_,rfl,x,aJ,dg,_,_,rfl,hg,Gc.cl,Gc.members,L3 dm,dm,km,rfl,D.hm,λo nf R hR=>?_⟩;have nR:R≠dm:=λz=>by rw[z,ae]at hR;cases hR
  have WX:H R=none:=by rw[aq nR]at hR;exact hR
  refine auU (λk ys bK H'=>(∃u,bK=[u])/\(∃gs,gQ H' ys gs/\gs.length=k/\∀(i:Nat) ps,gs[i]?=some ps->∃l ms v,km[i]?=some (bf l,v)/\mm l=some ms/\ps.Perm ms/\ps.Pairwise λp q=>kW p q=true)/\H' R=some (.lst ys)/\(∀b o,b≠dm->H b=some o->H' b=some o)/\H' dm=some (.t9 o (.dT km))/\∀(i:Nat) a,ys[i]?=some (.ref a)->H a=none/\a≠R) ⟨⟨_,rfl⟩,⟨[], .nil,rfl,λi ps e=>by simp at e⟩,ae,λb o hb e=>by rw[aq (Fh WX),aq hb];exact e,by rw[aq (Ay nR),ae],λi a e=>by simp at e⟩ ?_ ?_ ?_
  ·rintro k ys bK H' _ ⟨_,_,_,_,h4,_⟩;exact h4
  ·rintro k ⟨key,v⟩ ys bK H' hk ⟨⟨u,rfl⟩,⟨gs,W1,hl,PX⟩,SG,PY,Mo,EU⟩;obtain⟨l,el⟩:=D.key _ (B7 hk);have el:key=bf l:=el;subst el;have vv:=Ec D.Eb hk;have mv:=JB l;cases e:mm l with
   |none=>
    rw[e]at mv;have mv:bH km (bf l)=none:=mv;rw[mv]at vv;cases vv
   |some ms=>
    rw[e]at mv;obtain⟨a,us,z1,z2,z3,z4⟩:=mv;rw[vv]at z1;cases z1;obtain⟨nd,Ga⟩:=F8 l ms e;have aer:a≠dm:=λz=>by rw[z,D.hm]at z2;cases z2
    have T:eC H H':=λb v hb=>PY b _ (λz=>by rw[z,D.hm]at hb;cases hb) hb
    refine rD ?_;refine⟨_,rfl,a,us,ms,rfl, .of (PY _ _ aer z2),z3.cT T,nd,by have:=D.Bz nd (λp hp=>⟨l,(Ga p).mp hp⟩);lia,λD2 auu qs m6 P2 perm pw=>?_⟩;have UC:D2≠R:=λz=>by rw[z,SG]at m6;cases m6
    have YM:D2≠dm:=λz=>by rw[z,Mo]at m6;cases m6
    have abw:H D2=none:=by
     cases z:H D2 with
     |none=>rfl
     |some o2=>rw[PY D2 o2 YM z]at m6;cases m6
    have Lk:=W1.1;have WE:k<km.length:=(AM hk).1;refine⟨by rw[aq (Ay UC)];exact SG,bb A3,⟨_,rfl⟩,⟨gs++[qs],?_,by simp;lia,λi ps hi=>?_⟩,ae,λb o hb eb=>?_,?_,λi a ha=>?_⟩
    ·have W2:gQ avT ys gs:=W1.same (Aa m6);have W3:gQ avT (ys++[.ref D2]) (gs++[qs]):=W2.append (.one ae (P2.same (Aa m6)));refine W3.put (λi e=>?_) (by rw[aq (Ay UC)];exact SG);by_cases hi:i<ys.length
     ·rw[Bi hi]at e;exact(EU i R e).2 rfl
     ·have:=(AM e).1;have:i=ys.length:=by simp at this;lia
      subst this;simp at e;exact UC e
    ·by_cases Jn:i<gs.length
     ·rw[Bi Jn]at hi;exact PX i ps hi
     ·have:=(AM hi).1;have:i=gs.length:=by simp at this;lia
      subst this;simp at hi;subst hi;exact⟨l,ms,_,by rw[hl];exact hk,e,perm,pw⟩
    ·rw[aq (aG eb WX),aq (aG eb abw)];exact PY b o hb eb
    ·rw[aq (Ay nR),aq (Ay YM)];exact Mo
    ·by_cases hi:i<ys.length
     ·rw[Bi hi]at ha;exact EU i a ha
     ·have:=(AM ha).1;have:i=ys.length:=by simp at this;lia
      subst this;simp at ha;subst ha;exact⟨abw,UC⟩
  ·rintro ys bK H' ⟨_,⟨gs,W1,hl,PX⟩,SG,PY,Mo,EU⟩;refine q _ R ys gs ⟨λa h=> .inl h,λb o hb eb=>PY b o (λz=>hb (by rw[z];exact D.sm)) eb⟩ WX SG W1 (λk a h=>(EU k a h).1) ?_;have at_:∀ps∈gs,∃l ms,mm l=some ms/\ps.Perm ms/\ps.Pairwise (λp q=>kW p q=true):=λps F_=>by
    obtain⟨i,hi⟩:=List.getElem?_of_mem F_;obtain⟨l,ms,v,_,h2,h3,h4⟩:=PX i ps hi;exact⟨l,ms,h2,h3,h4⟩
   refine⟨λps F_=>?_,λps F_=>?_,λps F_ a ha b=>?_,λa ha=>?_,?_⟩
   ·obtain⟨_,_,_,_,h4⟩:=at_ ps F_
    exact h4
   ·obtain⟨l,ms,h2,h3,_⟩:=at_ ps F_
    intro z;subst z;have:l∈ms:=((F8 l ms h2).2 l).mpr (D.self l ms h2);have:=h3.mem_iff.mpr this;cases this
   ·obtain⟨l,ms,h2,h3,_⟩:=at_ ps F_
    have ha:=((F8 l ms h2).2 a).mp (h3.mem_iff.mp ha);rw[h3.mem_iff,(F8 l ms h2).2,hE,ha];exact⟨λz=>⟨l,rfl,z⟩,λ⟨y,h,z⟩=>by cases h;exact z⟩
   ·obtain⟨l,h1,_⟩:=(hE a a).mp ha;obtain⟨ms,Ga⟩:=D.ml a l h1;have mv:=JB l;rw[Ga]at mv;obtain⟨aa,us,z1,_⟩:=mv;obtain⟨i,hi⟩:=adL z1;have iO:i<gs.length:=by rw[hl];exact(AM hi).1
    obtain⟨l2,ms2,v,h5,h6,h7,_⟩:=PX i gs[i] (by simp[iO]);rw[hi]at h5;have:l=l2:=dJ (Hi (Aw h5)).1;subst this;refine⟨gs[i],EZ iO,h7.mem_iff.mpr ?_⟩;exact((F8 l ms2 h6).2 a).mpr h1
   ·rw[List.pairwise_iff_getElem];intro i j hi hj vV a ha hb;obtain⟨l1,m1,v1,a1,a2,a3,_⟩:=PX i gs[i] (by simp[hi]);obtain⟨l2,m2,v2,b1,b2,b3,_⟩:=PX j gs[j] (by simp[hj]);have ha:=((F8 l1 m1 a2).2 a).mp (a3.mem_iff.mp ha);have hb:=((F8 l2 m2 b2).2 a).mp (b3.mem_iff.mp hb);rw[ha]at hb;cases hb;have nd:=D.Eb;have h1:(km.map (·.1))[i]?=some (bf l1):=by rw[List.getElem?_map,a1];rfl
    have h2:(km.map (·.1))[j]?=some (bf l1):=by rw[List.getElem?_map,b1];rfl
    have:=(Jf (AM h1).1).mp (RD h2.symm)
    lia
variable(n5:oE P w K mg base true 1 "Groups" aJ ["self"] [] (uS aJ))
variable(Hc:Mh K aC)
theorem ahx:aK ["self","trails","worth"] ["self","trails","worth"] (au fK):=gC
include T n5 Hc in
theorem apd(F:ip K "__init__" "Gathering.__init__" fK f fd):aZ P w K mg base (AU P) true 3 f fd ["self","trails","worth"] (rR aC aJ):=by
 refine F.f' ahx Am gD
 ·obtain⟨x,dx,tr,W,rfl,_⟩:=h;rfl
 ·obtain⟨x,dx,tr,W,rfl,hx,q⟩:=h;refine⟨_,(ZL (k8 (vI (HX (alG n5 xW hX.pass))))),?_⟩;refine⟨_,rfl,_,rfl,x,aC,dx,_,rfl,hx,Hc.cl,Hc.uW,AN,?_⟩;refine⟨_,rfl,_,rfl,x,aC,dx,_,rfl,ae,Hc.cl,Hc.worth,by have:=aY "trails" (.ref tr) [];simp at this;lia,?_⟩;rw[gL];refine λg dg hg UD ed=>?_
  have SI:x≠g:=λz=>by rw[<-z,ae]at hg;cases hg
  have WZ:x≠dg:=λz=>by rw[<-z,ae]at UD;cases UD
  have SJ:H g=none:=by rw[aq (Ay SI)]at hg;exact hg
  have SK:H dg=none:=by rw[aq (Ay WZ)]at UD;exact UD
  refine⟨g,dg,rfl,ae,λH1 S1 zZ Ms G1=>⟨rfl,?_⟩⟩;have keep:∀b o,b≠x->H b=some o->H1 b=some o:=λb o hb e=>zZ b o tE (by rw[aq tE,aq (Fh SK),aq hb];exact e)
  have mB:H1 x=some (.ins aC dx (YU "worth")):=zZ x _ SI (by rw[aq SI,aq WZ];exact ae);have l2:(YU "worth").length<=2:=by
   have:=aY "trails" (.ref tr) [];have:=aY "worth" (.int W) (xQ (.ref tr));simp at*;lia
  refine⟨_,rfl,x,aC,dx,_,rfl,mB,Hc.cl,Hc.groups,by lia,?_⟩;refine λdk UE=>?_
  have PZ:x≠dk:=λz=>by rw[<-z,ae]at UE;cases UE
  have I0:H1 dk=none:=by rw[aq YR]at UE;exact UE
  have auk:H dk=none:=by
   cases e:H dk with
   |none=>rfl
   |some o=>rw[keep dk o YR e]at I0;cases I0
  refine⟨_,rfl,x,aC,dx,_,rfl,by rw[aq PZ];exact ae,Hc.cl,Hc.marks,by have:=aY "groups" (.ref g) (YU "worth");lia,?_⟩;rw[apn];have UG:¬S1 x:=λz=>by
   have:=Ms x z;rw[aq SI,aq WZ,ae]at this;cases this
  have s1g:¬S1 g:=λz=>by
   have:=Ms g z;rw[ae]at this;cases this
  have G2:=G1.nt;have fin:∀b o,b≠x->H1 b=some o->upd (DT (Ra x (.ins aC dx (bE "groups" (.ref g) (YU "worth")))) dk (.dT [])) x (.ins aC dx zg) b=some o:=λb o hb e=>by
   rw[aq hb,aq (Fh I0),aq hb];exact e
  have akD:¬(S1 dk/\NT H1 dk):=λz=>by
   obtain⟨o,e,_⟩:=z.2;rw[I0]at e;cases e
  refine q _ (λa=>(S1 a/\NT H1 a)∨a=dk) (λb o hb e=>fin b o hb (keep b o hb e)) (λa ha=>?_) ⟨dx,g,dk,[],λa=>S1 a/\NT H1 a,ae,G2.keep (λa o hs e=>fin a o (λz=>UG (by rw[<-z];exact hs.1)) e) (λb v hb=>fin b _ (λz=>by rw[z,mB]at hb;cases hb) hb) (λo e=>fin g o (Ay SI) e),by rw[aq YR,ae],λc=>rfl,Nat.le_refl _,λa=>Iff.rfl,akD,λz=>Rl (λy=>UG y.1) PZ,λz=>Rl (λy=>s1g y.1) (λy=>?_),λa ha=>?_⟩
  ·rcases ha with ha|ha
   ·have:=Ms a ha.1;cases e:H a with
    |none=>rfl
    |some o=>rw[aq tE,aq (Fh SK),aq (λz=>UG (by rw[<-z];exact ha.1)),e]at this;cases this
   ·rw[ha];exact auk
  ·obtain⟨dg2,dl,dm,kl,K1,ld,mm,og,_⟩:=G1;rw[y,I0]at og;cases og
  ·rcases ha with⟨h1,o,h2,h3⟩|ha
   ·exact⟨o,fin a o (λz=>UG (by rw[<-z];exact h1)) h2,h3⟩
   ·exact⟨_,by rw[ha,aq YR,ae],λv=>(AA)⟩
variable(dq:ff P w K mg base true 1 aJ "unite" ["self","pair","other"] (uT aJ))
theorem afm:aK ["self","crossing","pair"] ["self","crossing","pair"] (au fV):=gC
include T Hc dq in
theorem aoa(F:ip K "mark" "Gathering.mark" fV f fd):aZ P w K mg base (AU P) true 2 f fd ["self","crossing","pair"] (uX aC aJ):=by
 refine F.f' afm Am gD
 ·obtain⟨x,tc,tp,tr,W,c,r,S,s1,B,M,rfl,_⟩:=h;rfl
 ·obtain⟨x,tc,tp,tr,W,c,r,S,s1,B,M,rfl,G,hc,hp,OG,h0,hB,hM,q⟩:=h;have hu:=hr.units;have hu:(Bc (Dj "Gathering.mark" (au fV))).units+1<cLine:=by lia
  refine⟨_,(A8 (iS (Bx (pA Ba)) (A8 (BR (Qy dq (Fv (Kf Ba))))) (A8 (Xu Ba (pv 2))))),?_⟩;obtain⟨dx,g,dk,km,S1,D⟩:=id G;refine⟨_,rfl,_,rfl,x,aC,dx,_,_,rfl,D.ob,Hc.cl,Hc.marks,OH g,dk,_,rfl, .t (k:=bf c) D.hk hc,_,rfl,?_⟩;have mv:=JB c;cases e:s1.2 c with
  |none=>
   rw[e]at mv;have mv:bH km (bf c)=none:=mv;rw[mv];refine gu ?_;have hl:=D.len;refine⟨_,rfl,_,rfl,x,aC,dx,_,_,rfl,D.ob,Hc.cl,Hc.marks,OH g,_,rfl,dk,_,rfl, .t (k:=bf c) D.hk hc jT,?_⟩;obtain⟨u,D'⟩:=D.put (c:=c) hp;refine q _ S u ⟨dx,g,dk,putK km (bf c) (.ref tp),S1,?_⟩;unfold AX;rw[e];exact D'
  |some r0=>
   rw[e]at mv;obtain⟨t0,v0,ht0⟩:=mv;rw[v0];refine j1 ?_;obtain⟨dg,dl,dm,kl,K1,ld,mm,og,_⟩:=id D.gr;refine⟨_,rfl,x,aC,dx,_,_,rfl,D.ob,Hc.cl,Hc.groups,NJ g dk,g,dg,_,rfl,og,aco dl dm,_,rfl,x,aC,dx,_,_,rfl,D.ob,Hc.cl,Hc.marks,OH g,_,rfl,dk,_,rfl,by have:=kO.t (k:=bf c) D.hk hc;rw[v0]at this;exact this,_,rfl,g,t0,tp,r0,r,S1,s1.1,B,rfl,D.gr,ht0,hp,h0 r0 e,OG,hB,λH' u G'=>?_⟩;obtain⟨S',S2,u2,D2⟩:=D.Uq u G';refine q _ S' u2 ⟨dx,g,dk,km,S2,?_⟩;unfold AX;rw[e];exact⟨D2.ob,D2.gr,D2.hk,D2.mv,by have:=D2.len;lia,D2.sS,D2.Eb,D2.nx,D2.ng,D2.nt⟩
variable(cz:ff P w K mg base true 1 aJ "take_in" ["self","pair"] (yO aJ))
variable(cA:ff P w K mg base true 2 aC "mark" ["self","crossing","pair"] (uX aC aJ))
theorem fO:aK ["self","crossing","pair","later","before"] ["self","crossing","pair"] (au dX):=gC
include T bh a8 Hc dq cz cA in
theorem aqN(F:ip K "go_over" "Gathering.go_over" dX f fd):aZ P w K mg base (AU P) true 3 f fd ["self","crossing","pair"] (uY aC aJ az):=by
 refine F.f' fO Am gD
 ·obtain⟨x,tc,tp,tr,dt,e,b,es,bs,f,o,p,n,m,W,i,j,r,S,s1,B,M,H0,rfl,_⟩:=h;rfl
 ·obtain⟨x,tc,tp,tr,dt,e,b,es,bs,f1,o,p,n,m,W,i,j,r,S,s1,B,M,H0,rfl,G,TR,BA,hc,hp,hi,hj,TP,OK,hs,hB,hM,q⟩:=h;have hu:=hr.units;have hu:(Bc (Dj "Gathering.go_over" (au dX))).units+1<cLine:=by lia
  refine⟨_,(AQ (nV (3) fO.nd) (AQ (Bp (Bn (Qy bh t6)) (AQ (BR (Qy cz mq)) (A8 (BR (Qy dq RG))))) (A8 (DB (E7 (Qy a8 S9)) (Af (4) fO.nd) (A8 (BR (acJ cA))))))),?_⟩;obtain⟨dx,g,dk,km,S1,D⟩:=id G;obtain⟨tl,vl,AV⟩:∃tl,bH km (bf Hd)=some (.ref tl)/\H tl=some (.tup Gi):=by have:=D.mv Hd;rw[hs]at this;exact this
  obtain⟨PK,i2,j2,e2,OV⟩:=OK.mr _ _ hs;obtain⟨rfl,rfl⟩:=jk e2;refine⟨λσ H1=>H1=H/\σ=[sR x,sR tc,sR tp,sR tl,none],⟨_,rfl,x,aC,dx,_,_,rfl,D.ob,Hc.cl,Hc.marks,OH g,_,rfl,dk,_,rfl,by have:=kO.t (k:=bf Hd) D.hk hc;rw[vl]at this;exact this,rfl,rfl⟩,?_⟩;rintro σ H1 ⟨rfl,rfl⟩;have T1:=Fz BA.same;refine⟨λσ H2=>σ=[sR x,sR tc,sR tp,sR tl,none]/\∃S',qu S H1 S' H2/\iV H2 aC aJ x tr W S' (Nz f1 s1) (B+1) M,?_,?_⟩
  ·refine⟨_,rfl,x,aC,dx,_,_,rfl,D.ob,Hc.cl,Hc.uW,XF g dk,tr,dt,_,rfl,T1.ob,Mc o p e b,_,rfl,_,rfl,tr,dt,e,b,es,bs,f1,o,p,n,m,tc,tp,i+1,j+1,i,j,rfl,T1,hc,hp,by lia,by lia,hi,hj,_,rfl,?_⟩;unfold Mf;refine a9 Dg (λhh=>?_)
   ·have hh:=of_decide_eq_true hh;rw[A7 hh];refine⟨λσ H2=>σ=[sR x,sR tc,sR tp,sR tl,none]/\∃S',qu S H1 S' H2/\iV H2 aC aJ x tr W S' (Me s1.1 Be,s1.2) (B+1) M,?_,?_⟩
    ·obtain⟨dg,dl,dm,kl,K1,ld,mm,og,_⟩:=id D.gr;refine⟨_,rfl,x,aC,dx,_,_,rfl,D.ob,Hc.cl,Hc.groups,NJ g dk,g,dg,_,rfl,og,abO dl dm,_,rfl,g,tp,aN (i,j),S1,s1.1,B,rfl,D.gr,hp,by lia,λH' OM u G'=>?_⟩;obtain⟨S',S2,u2,D2⟩:=D.Uq u G';exact⟨rfl,S',u2,dx,g,dk,km,S2,D2⟩
    rintro σ H2 ⟨rfl,S',u2,G2⟩;obtain⟨UH,g2,UI,K1,S2,D2⟩:=id G2;have T:=u2.cT G.nt;obtain⟨dg,dl,dm,kl,km3,ld,mm,og,_⟩:=id D2.gr;refine⟨_,rfl,x,aC,UH,_,_,rfl,D2.ob,Hc.cl,Hc.groups,NJ g2 UI,g2,dg,_,rfl,og,aco dl dm,_,rfl,_,rfl,g2,tp,tl,aN (i,j),r,S2,_,B+1,rfl,D2.gr,N2 hp,N2 AV, .inr ⟨rfl,rfl⟩, .inl PK,by lia,λH' u G'=>?_⟩;obtain⟨WB,S3,u3,D3⟩:=D2.Uq u G';exact⟨rfl,WB,u2.trans u3,UH,g2,UI,K1,S3,D3⟩
   ·have hh:¬dh f1 o p i j=Bq f1 o p (i+1) (j+1):=λz=>hh Vf
    rw[A6 hh];exact⟨rfl,S, .same (.refl _),G.cast rfl (by lia) (Nat.le_refl _)⟩
  rintro σ H2 ⟨rfl,S2,u2,G2⟩;obtain⟨OKB,aaG,_⟩:=aaS TP OK PK OV;have El:=BA.ups u2;have T2:=Fz El.same;have TT:=u2.cT G.nt;obtain⟨UH,g2,UI,K1,S3,D2⟩:=id G2;refine⟨_,rfl,x,aC,UH,_,_,rfl,D2.ob,Hc.cl,Hc.uW,XF g2 UI,tr,dt,_,rfl,T2.ob,D9 o p e b,_,rfl,tr,dt,e,b,es,bs,f1,o,p,n,m,tc,i,j,rfl,T2,TT _ _ hc,hi,hj,λH3 rr us s3 r6 wu P3=>?_⟩;refine⟨rr,rfl,⟨_, .of wu⟩,?_⟩;have hlen:(Eh f1).length<=2:=by
   unfold bF;rw[List.length_append];split<;>split<;>simp
  have hco:=abL TP OV;refine br (xs:=us) (λk σ H4=>(∃w,σ=[sR x,sR tc,sR tp,sR tl,w])/\∃S4,qu S H1 S4 H4/\iV H4 aC aJ x tr W S4 (((Eh f1).take k).foldl awD (Nz f1 s1)) (B+1) (M+k)/\H4 rr=some (.lst us)/\gw H4 us (Eh f1)/\¬S4 rr/\H4 tl=some (.tup Gi)) ?_ ?_ ?_ ?_
  ·have G3:=G2.same s3;refine⟨⟨_,rfl⟩,S2,u2.trans (.same s3),G3.cast A9 (Nat.le_refl _) (Nat.le_refl _),wu,P3,G2.out r6,Dd (TT _ _ AV)⟩
  ·rintro k σ H4 _ ⟨_,S4,_,_,h4,_⟩;exact .of h4
  ·rintro k v σ H4 hv ⟨⟨w,rfl⟩,S4,u4,G4,h4,P4,n4,t4⟩;have hk:k<(Eh f1).length:=by rw[<-P4.1];exact(AM hv).1
   have ek:(Eh f1)[k]?=some (Eh f1)[k]:=by simp[hk]
   have jK:(Eh f1)[k]∈bF f1 o p i j:=EZ hk;generalize (Eh f1)[k]=c at ek jK;obtain⟨t,k1,k2⟩:=P4.2 k c ek;rw[hv]at k1;cases k1;obtain⟨OK4,GW4,_⟩:=uV TP ((Eh f1).take k) _ OKB (aaG.e _ _ PK) (λc hc=>hco c (HP hc));obtain⟨dx4,g4,dk4,km4,S5,D4⟩:=id G4;refine⟨_,rfl,x,dx4,_,rfl,D4.ob,Ee tr W g4 dk4,_,rfl,_,rfl,x,t,tl,tr,W,c,r,S4,_,B+1,M+k,rfl,G4,k2,t4,GW4.e _ _ (aaG.e _ _ PK),λr0 h=>(OK4.mr _ _ h).1,by lia,by lia,λH5 S6 u5 G5=>?_⟩;have T5:=u5.cT G4.nt;refine⟨⟨_,rfl⟩,S6,u4.trans u5,G5.cast ?_ Bj (by lia),u5.keep rr _ n4 h4,P4.cT T5,u5.out n4 h4,T5 _ _ t4⟩;rw[List.take_succ,ek];simp
  ·rintro σ H4 ⟨⟨w,rfl⟩,S4,u4,G4,h4,P4,n4,t4⟩;refine q _ S4 u4 (aqZ Bj (by have:=P4.1;lia));rw[P4.1,List.take_length];rfl
variable(jo:ff P w K mg base true 1 aJ "has" ["self","pair"] (CC aJ))
variable(dY:ff P w K mg base true 3 aC "go_over" ["self","crossing","pair"] (uY aC aJ az))
theorem gE:aK ["self","i","j","pair","behind"] ["self","i","j"] (au fq):=gC
include T Rc cy Hc cz cA jo dY in
theorem ajT(F:ip K "visit" "Gathering.visit" fq f fd):aZ P w K mg base (AU P) true 4 f fd ["self","i","j"] (rS aC aJ az):=by
 refine F.f' gE Am gD
 ·obtain⟨x,tr,dt,e,b,es,bs,f,o,p,n,m,W,i,j,S,s1,B,M,H0,rfl,_⟩:=h;rfl
 ·obtain⟨x,tr,dt,e,b,es,bs,f1,o,p,n,m,W,i,j,S,s1,B,M,H0,rfl,G,TR,BA,hi,hj,hn,hm,TP,OK,hB,hM,q⟩:=h;have hu:=hr.units;have hu:(Bc (Dj "Gathering.visit" (au fq))).units+1<cLine:=by lia
  refine⟨_,(AQ (AZ (3) gE.nd (CU t6)) (AQ (AZ (4) gE.nd (CU (Ao (GL Ba) (AB (GL Bm))))) (AQ (Bp (Hu (Bd (Bd (Df KC) (pv 1)) (pv 2)) (FO K)) (A8 (BR (iq cz)))) (AQ (Bp (Bx (pA BP)) (A8 (BR (acJ dY)))) (A8 (Bp (CO (Ht (Bn (iq jo)) (J8 (Bn (iq cy))))) (A8 (BR (JH Bv cA (Jb Bg)))))))))),?_⟩;refine⟨λσ H1=>∃t,σ=[sR x,sI i,sI j,sR t,none]/\av H H1/\H1 t=some (.tup zm),⟨_,rfl,_,rfl,aE A9,λt ht=>⟨t,rfl,Aa ht,ae⟩⟩,?_⟩;rintro σ H1 ⟨t,rfl,s2,ht⟩;refine⟨λσ H2=>∃u,σ=[sR x,sI i,sI j,sR t,sR u]/\av H1 H2/\H2 u=some (.tup avB),⟨_,rfl,_,_,rfl,rfl,_,rfl,_,_,rfl,rfl,aE A9,λu hu=>⟨u,rfl,Aa hu,ae⟩⟩,?_⟩;rintro σ H2 ⟨u,rfl,s3,Um⟩;have vX:=Dd ht;have OZ:=GP s3;have G2:=G.same OZ;have El:=BA.more OZ;have T2:=Fz El.same;obtain⟨rb,g1,g2,g3⟩:=T2.te.at hi;refine⟨λσ H3=>σ=[sR x,sI i,sI j,sR t,sR u]/\∃S',qu S H2 S' H3/\iV H3 aC aJ x tr W S' (JV f1 s1) (B+1) M,?_,?_⟩
  ·obtain⟨dx,g,dk,km,S1,D⟩:=id G2;refine⟨_,rfl,x,aC,dx,_,_,rfl,D.ob,Hc.cl,Hc.uW,XF g dk,tr,az,dt,_,_,rfl,T2.ob,Rc.cl,Rc.i6,MN p,_,rfl,e,_,_,_,rfl,rfl, .of T2.he,ar g2,_,rfl,rb,_,_,_,rfl,rfl, .of g3,ar (bN hj),_,rfl,x,aC,dx,_,_,rfl,D.ob,Hc.cl,Hc.worth,aex tr W g dk,?_⟩;have Mn:decide (bu (om i j)=V.int W)=decide (dh f1 o p i j=some W):=by cases dh f1 o p i j<;>simp[bu]
   refine⟨by cases dh f1 o p i j<;>rfl,_,rfl,?_⟩;rw[Mn];unfold KZ;refine a9 Dg (λhh=>?_)
   ·have hh:=of_decide_eq_true hh;rw[A7 hh];obtain⟨dg,dl,dm,kl,K1,ld,mm,og,_⟩:=id D.gr;refine⟨_,rfl,x,aC,dx,_,_,rfl,D.ob,Hc.cl,Hc.groups,NJ g dk,g,dg,_,rfl,og,abO dl dm,_,rfl,g,t,aN (i,j),S1,s1.1,B,rfl,D.gr,vX,by lia,λH' OM u G'=>?_⟩;obtain⟨S',S2,u2,D2⟩:=D.Uq u G';exact⟨rfl,S',u2,dx,g,dk,km,S2,D2⟩
   ·have hh:¬dh f1 o p i j=some W:=λz=>hh Vf
    rw[A6 hh];exact⟨rfl,S, .same (.refl _),G2.cast rfl (by lia) (Nat.le_refl _)⟩
  rintro σ H3 ⟨rfl,S3,u3,G3⟩;have aoP:=u3.cT G2.nt;have Ll:=El.ups u3;obtain⟨OK1,GW1,_⟩:=aaz OK i j;refine⟨λσ H4=>σ=[sR x,sI i,sI j,sR t,sR u]/\∃S',qu S3 H3 S' H4/\iV H4 aC aJ x tr W S' (HW f1 s1) (B+2) (M+2),?_,?_⟩
  ·obtain⟨dx,g,dk,km,S1,D⟩:=id G3;refine⟨_,rfl,_,rfl,x,aC,dx,_,_,rfl,D.ob,Hc.cl,Hc.marks,OH g,dk,_,rfl, .t (k:=bf Hd) D.hk (XC Um),_,rfl,?_⟩;have mv:=JB Hd;have ee:(JV f1 s1).2=s1.2:=rfl;rw[ee]at mv;unfold Gb;cases e9:s1.2 Hd with
   |none=>
    rw[e9]at mv;have mv:bH km (bf Hd)=none:=mv;rw[mv];refine gu ?_;exact⟨rfl,S3, .same (.refl _),G3.cast rfl (by lia) (by lia)⟩
   |some r=>
    rw[e9]at mv;obtain⟨tl,vl,AV⟩:=mv;rw[vl];refine j1 ?_;exact⟨_,rfl,x,dx,_,rfl,D.ob,agM tr W g dk,_,rfl,_,rfl,x,u,t,tr,dt,e,b,es,bs,f1,o,p,n,m,W,i,j,r,S3,_,B+1,M,H0,rfl,G3,TR,Ll,XC Um,XC vX,hi,hj,TP,OK1,e9,by lia,by lia,λH' S' u G'=>⟨rfl,S',u,G'⟩⟩
  rintro σ H4 ⟨rfl,S4,u4,G4⟩;have TT4:=u4.cT G3.nt;have BA4:=Ll.ups u4;have T4:=Fz BA4.same;have UK:=TT4 _ _ (XC vX);obtain⟨OK2,GW2,_⟩:=IE TP OK i j;have uu:qu S H S4 H4:=(qu.same OZ).trans (u3.trans u4);obtain⟨dx,g,dk,km,S1,D⟩:=id G4;obtain⟨dg,dl,dm,kl,K1,ld,mm,og,_⟩:=id D.gr;refine⟨_,rfl,x,aC,dx,_,_,rfl,D.ob,Hc.cl,Hc.groups,NJ g dk,g,dg,_,rfl,og,agD dl dm,_,rfl,g,t,aN (i,j),S1,_,B+2,rfl,D.gr,UK,λb1 kI=>?_⟩;refine⟨_,rfl,?_⟩;refine a9 Dg (λhh=>?_)
  ·refine⟨_,rfl,x,aC,dx,_,_,rfl,D.ob,Hc.cl,Hc.uW,XF g dk,tr,dt,_,rfl,T4.ob,Iq o p e b,_,rfl,tr,dt,e,b,es,bs,f1,o,p,n,m,t,i,j,rfl,T4,UK,by lia,by lia,_,rfl,?_⟩;refine a9 He (λh2=>?_)
   ·have pW:=kI.mp hh;refine⟨_,rfl,x,dx,_,rfl,D.ob,Ee tr W g dk,_,rfl,_,rfl,x,t,t,tr,W,aN (i,j),aN (i,j),S4,_,B+2,M+2,rfl,G4,UK,UK,pW,λr0 h=>(OK2.mr _ _ h).1,by lia,by lia,λH5 S5 u5 G5=>?_⟩;refine q _ S5 (uu.trans u5) ?_;unfold BF;rw[A7 ⟨pW,h2⟩];exact G5
   ·refine q _ S4 uu auK;unfold BF;rw[A6 (λz=>h2 z.2)]
  ·refine gu ?_;refine q _ S4 uu auK;unfold BF;rw[A6 (λz=>hh (kI.mpr z.1))]
variable(jq:oE P w K mg base true 3 "Gathering" aC ["self","trails","worth"] [] (rR aC aJ))
variable(fv:ff P w K mg base true 4 aC "visit" ["self","i","j"] (rS aC aJ az))
variable(iI:ff P w K mg base true 1 aJ "told" ["self"] (yP aJ))
theorem gY:aK ["trails","worth","gathering","i","j"] ["trails","worth"] (au kH):=gC
include T Rc Hc jq fv iI in
theorem aoG(F:jh K "best_groups" "best_groups" kH f fd):aZ P w K mg base (AU P) true 5 f fd ["trails","worth"] (CH az):=by
 refine F.f' gY Am gD
 ·obtain⟨tr,dt,e,b,es,bs,f,o,p,n,m,W,rfl,_⟩:=h;rfl
 ·obtain⟨tr,dt,e,b,es,bs,f1,o,p,n,m,W,rfl,TR,IT,YO,hn,hm,TP,q⟩:=h;refine⟨_,(AQ (AZ (2) gY.nd (zB jq)) (AQ (DB (zc (adD (ED ι))) (Af (3) gY.nd) (A8 (DB (zc (adD (ED (C9 (AB (IW Bg)))))) (Af (4) gY.nd) (A8 (BR (JH Bm fv ZM)))))) (A8 (Az (anr tS iI xW aO))))),?_⟩;refine⟨λσ H1=>∃gx S,σ=[sR tr,sI W,sR gx,none,none]/\Base H H1 S/\iV H1 aC aJ gx tr W S (λ_ _=>False,λ_=>none) 0 0,?_,?_⟩
  ·refine⟨_,rfl,_,rfl,λy dy hy OW ed=>⟨y,dy,tr,W,rfl,ae,λH' S sb fr G=>⟨rfl,y,S,rfl,⟨M4 hy OW,λa ha=>?_⟩,G⟩⟩⟩;have:=fr a ha;cases e9:H a with
   |none=>rfl
   |some o9=>rw[aq (aG e9 hy),aq (aG e9 OW),e9]at this;cases this
  rintro σ H1 ⟨gx,S,rfl,BA,G⟩;have Le:es.length=n:=TR.te.1;have V0:=Vd.start f1 o p W n m;refine⟨λσ H2=>(∃u v,σ=[sR tr,sI W,sR gx,u,v])/\∃S s B M,Base H H2 S/\iV H2 aC aJ gx tr W S s B M/\Vd f1 o p W YC s/\B<=6000,?_,?_⟩
  ·have T1:=TR.keep BA.same;refine⟨_,rfl,tr,az,dt,_,_,rfl,T1.ob,Rc.cl,Rc.i6,MN p,e,_,rfl, .inl (.of T1.he),_,_,rfl,rfl,_,rfl,_,rfl,_,_,rfl,⟨by rw[List.length_map,Le];lia,by rw[List.length_map,Le];lia,AN,AN⟩,?_⟩;have en:((((Nk V.ref).length:Nat):Int)-1- -1).toNat=n:=by rw[List.length_map,Le];lia
   rw[en];refine acS (λk σ H2=>(∃u v,σ=[sR tr,sI W,sR gx,u,v])/\∃S s B M,Base H H2 S/\iV H2 aC aJ gx tr W S s B M/\Vd f1 o p W (Gj (n-k) 0) s/\B<=2*(k*m)/\M<=3*(k*m)) ⟨⟨_,_,rfl⟩,S,_,0,0,BA,G,V0,by lia,by lia⟩ ?_ ?_
   ·rintro k σ H2 hk ⟨⟨u,v,rfl⟩,S2,s2,B,M,El,G2,V2,hB,hM⟩;have ei:(((Nk V.ref).length:Nat):Int)-1-(k:Int)=((n-1-k:Nat):Int):=by rw[List.length_map,Le];lia
    rw[ei];have T2:=Fz El.same;obtain⟨rb,g1,g2,g3⟩:=T2.te.at (show n-1-k<n by lia);have V2:Vd f1 o p W (Gj (n-1-k) m) s2:=Vd.turn (by rw[show n-1-k+1=n-k by lia];exact V2);have hkm:(k+1)*m<=n*m:=Nat.mul_le_mul_right m A3;have hks:(k+1)*m=k*m+m:=Nat.succ_mul k m;have lm:∀g:Nat->Option Int,(EJ g).length=m:=λg=>by simp[cO]
    refine⟨_,rfl,tr,az,dt,_,_,rfl,T2.ob,Rc.cl,Rc.i6,MN p,_,rfl,e,_,_,_,rfl,rfl, .of T2.he,ar g2,rb,_,rfl, .inl (.of g3),_,_,rfl,rfl,_,rfl,_,rfl,_,_,rfl,⟨by rw[lm];lia,by rw[lm];lia,AN,AN⟩,?_⟩;have en2:((((EJ (YL f1 (n-1-k))).length:Nat):Int)-1- -1).toNat=m:=by rw[lm];lia
    rw[en2];refine acS (λl σ H3=>(∃v,σ=[sR tr,sI W,sR gx,sI (((n-1-k:Nat):Int)),v])/\∃S s B M,Base H H3 S/\iV H3 aC aJ gx tr W S s B M/\Vd f1 o p W (Gj (n-1-k) (m-l)) s/\B<=2*(k*m+l)/\M<=3*(k*m+l)) ⟨⟨_,rfl⟩,S2,s2,B,M,El,G2,V2,hB,hM⟩ ?_ ?_
    ·rintro l σ H3 hl ⟨⟨v3,rfl⟩,S3,s3,B3,M3,Ll,G3,V3,hB3,hM3⟩;have ej:(((EJ (YL f1 (n-1-k))).length:Nat):Int)-1-(l:Int)=((m-1-l:Nat):Int):=by rw[lm];lia
     rw[ej];obtain⟨dx,g,dk,km,S1,D⟩:=id G3;have V3:Vd f1 o p W (Gj (n-1-k) (m-1-l+1)) s3:=by rw[show m-1-l+1=m-l by lia];exact V3
     refine⟨_,rfl,gx,dx,_,rfl,D.ob,aut tr W g dk,_,rfl,_,rfl,gx,tr,dt,e,b,es,bs,f1,o,p,n,m,W,n-1-k,m-1-l,S3,s3,B3,M3,H,rfl,G3,TR,Ll,by lia,by lia,hn,hm,TP,V3.ok,by lia,by lia,λH4 S4 u4 G4=>?_⟩;refine⟨⟨_,rfl⟩,S4,_,_,_,Ll.ups u4,G4,?_,by lia,by lia⟩;have:=V3.next TP (show n-1-k<n by lia) (show m-1-l<m by lia);rw[show m-(l+1)=m-1-l by lia];exact this
    ·rintro σ H3 ⟨⟨v3,rfl⟩,S3,s3,B3,M3,Ll,G3,V3,hB3,hM3⟩;refine⟨⟨_,_,rfl⟩,S3,s3,B3,M3,Ll,G3,?_,by lia,by lia⟩;rw[show n-(k+1)=n-1-k by lia,show(0:Nat)=m-m by lia];exact V3
   ·rintro σ H2 ⟨⟨u,v,rfl⟩,S2,s2,B,M,El,G2,V2,hB,hM⟩;rw[Nat.sub_self]at V2;exact⟨⟨_,_,rfl⟩,S2,s2,B,M,El,G2,V2,by lia⟩
  rintro σ H2 ⟨⟨u,v,rfl⟩,S2,s2,B,M,El,G2,V2,hB⟩;obtain⟨dx,g,dk,km,S1,D⟩:=id G2;obtain⟨dg,dl,dm,kl,K1,ld,mm,og,_⟩:=id D.gr;have HG:=λa b=>V2.Fu TP IT a b
  refine⟨_,rfl,gx,aC,dx,_,_,rfl,D.ob,Hc.cl,Hc.groups,NJ g dk,g,dg,_,rfl,og,aop dl dm,g,S1,_,B,rfl,D.gr,by lia,λH3 r us gs u3 r6 wu W3 Ph TD=>?_⟩;have Ll:Base H H2 S1:=⟨El.same,λa h=>El.free a ((D.sS a).mpr (.inl h))⟩
  exact q _ r us gs (Ll.ups u3).same (El.same.free r6) wu W3 (λk a h=>El.same.free (Ph k a h)) (TD.iff HG)
theorem pG:aK ["taken","shut","pair"] ["taken"] (au nY):=gC
include T in
theorem aoA(F:jh K "shut_by" "shut_by" nY f fd):aZ P w K mg base (AU P) true 1 f fd ["taken"] yD:=by
 refine F.f' pG Am gD
 ·obtain⟨v,shut,rfl,_⟩:=h;rfl
 ·obtain⟨v,shut,rfl,TV,hlen,q⟩:=h;have hu:=hr.units;have hu:(Bc (Dj "shut_by" (au nY))).units+1<cLine:=by lia
  refine⟨_,(AS (AZ (1) pG.nd kP) (AQ (Bp (Bx (QU Bv)) (A8 (k_ (Af (2) pG.nd) (A8 (ZZ Ba (pv 2) dF))))) (A8 (Az Ba)))),?_⟩;refine λd hd=>?_
  refine⟨λσ H1=>(∃u,σ=[some v,sR d,u])/\av H H1/\∃kvs,H1 d=some (.dT kvs)/\oH kvs shut,?_,?_⟩
  ·refine⟨_,rfl,_,rfl,?_⟩;rcases TV with⟨rfl,rfl⟩|⟨l,us,rfl,hl,P1⟩
   ·refine a9 N7 (λ_=>?_);exact⟨⟨_,rfl⟩,Aa hd,[],ae,λp=>by simp[uw]⟩
   ·refine a9 Kb (λhh=>absurd A9 hh);have Lg:=P1.1;refine⟨_,rfl,l,rfl,⟨_, .of (Bt hd hl)⟩,?_⟩;refine br (xs:=us) (λi σ H'=>(∃u,σ=[sR l,sR d,u])/\av H H'/\∃kvs,H' d=some (.dT kvs)/\kvs.length<=i/\oH kvs (shut.take i)) ?_ ?_ ?_ ?_
    ·exact⟨⟨_,rfl⟩,Aa hd,[],ae,Nat.le_refl _,λp=>by simp[uw]⟩
    ·rintro i σ H' _ ⟨_,s1,_⟩;exact .of (Bh hl)
    ·rintro i x σ H' hx ⟨⟨u,rfl⟩,s1,kvs,hD,hk,hS⟩;have hi:i<shut.length:=by rw[<-Lg];exact(AM hx).1
     obtain⟨t,zY,vX⟩:=Mz hi;rw[hx]at zY;cases zY;refine⟨_,rfl,_,rfl,d,_,rfl, .t (k:=bf (pr shut i)) hD (Bh vX) (bb A3),⟨_,rfl⟩,MF hd,_,ae,RJ A3,λp=>?_⟩;have e1:shut.take (i+1)=shut.take i++[pr shut i]:=by rw[List.take_succ,adA hi];rfl
     rw[jH,e1];by_cases hp:p=pr shut i
     ·rw[A7 (by rw[hp])];simp[hp]
     ·rw[A6 (λz=>hp ?_),hS p]
      ·simp[hp]
      ·simp only[bf,List.cons.injEq,Sum.inl.injEq,and_true]at z;exact Cd z.1 z.2
    ·rintro σ H' ⟨⟨u,rfl⟩,s1,kvs,hD,_,hS⟩;rw[Lg,List.take_length]at hS;exact⟨⟨_,rfl⟩,s1,kvs,hD,hS⟩
  rintro σ H1 ⟨⟨u,rfl⟩,s1,kvs,hD,hS⟩;exact⟨_,rfl,q H1 d kvs s1 hD hS⟩
variable(n6:bI P w K mg base true 1 "shut_by" ["taken"] yD)
variable(eY:ff P w K mg base true 1 aQ "pair_worth" ["self","x","y"] (yt aQ))
theorem d8:aK ["first","second","terms","taken","shut","worths","i","x","row"] ["first","second","terms","taken"] (au f9):=gC
include T Tc n6 eY in
theorem akT(F:jh K "open_worths" "open_worths" f9 f fd):aZ P w K mg base (AU P) true 2 f fd ["first","second","terms","taken"] (u0 aQ):=by
 refine F.f' d8 Am gD
 ·obtain⟨f,g,t,v,c,shut,rfl,_⟩:=h;rfl
 ·obtain⟨f1,g,t,v,c,shut,rfl,hf,hg,TF,TV,Ny,Jq,Lk,q⟩:=h;have hu:=hr.units;have hu:(Bc (Dj "open_worths" (au f9))).units+1<cLine:=by lia
  have lx:(Im V.str).length=c.xs.length:=List.length_map ..;have ly:(J7 V.str).length=c.ys.length:=List.length_map ..;refine⟨_,(AQ (JR (4) d8.nd (vS n6)) (AQ (FX (5) d8.nd) (y6 (DB (wZ K RB) (Ey (Bs (kb (6) d8.nd) (DJ (kb (7) d8.nd)))) (AQ (VA (8) d8.nd (show bx ["first","second","terms","taken","shut","worths","i","x","row"] (au f9) _ ["j","y"] [6,4,2,7] ["i","shut","terms","x"]from FA) (wM K) (λ_ _ _ _ _=>(Ey (Bs (Af (0) (show(["j","y","i","shut","terms","x"]:List Str).Nodup by decide+kernel)) (DJ (Af (1) (show(["j","y","i","shut","terms","x"]:List Str).Nodup by decide+kernel)))))) (λ_ _ _ _ _=>(Zy (Bx (qI (CU tT) (pv 3))) jD (JH BP eY (HQ S9))))) (A8 (BR (E6 DK (AB G6))))))))),?_⟩;refine⟨λσ H1=>∃d kvs,σ=[sR f1,sR g,sR t,some v,sR d,none,none,none,none]/\av H H1/\H1 d=some (.dT kvs)/\oH kvs shut,?_,?_⟩
  ·exact⟨_,rfl,v,shut,rfl,TV,Ny,λH1 d kvs s1 hd hS=>⟨d,kvs,rfl,s1,hd,hS⟩⟩
  rintro σ H1 ⟨d,kvs,rfl,s1,hd1,hS⟩;refine⟨λσ H2=>∃e,σ=[sR f1,sR g,sR t,some v,sR d,sR e,none,none,none]/\av H1 H2/\H1 e=none/\H2 e=some (.lst []),?_,?_⟩
  ·exact⟨aE A9,λe he=>⟨e,rfl,Aa he,he,ae⟩⟩
  rintro σ H2 ⟨e,rfl,s2,IY,PN⟩;refine⟨λσ H3=>(∃u1 u2 u3,σ=[sR f1,sR g,sR t,some v,sR d,sR e,u1,u2,u3])/\av H1 H3/\∃as:List Addr,H3 e=some (.lst Dt)/\fE H3 as (Fy c) c.xs.length c.ys.length/\(∀a∈as,H1 a=none/\a≠e)/\as.Nodup,?_,?_⟩
  ·refine⟨_,rfl,f1,rfl,⟨_, .of (BY (Bh hf))⟩,?_⟩;refine uG (xs:=Im V.str) (λi σ H'=>(∃u1 u2 u3,σ=[sR f1,sR g,sR t,some v,sR d,sR e,u1,u2,u3])/\av H1 H'/\∃as:List Addr,H' e=some (.lst Dt)/\fE H' as (Fy c) i c.ys.length/\(∀a∈as,H1 a=none/\a≠e)/\as.Nodup) ?_ ?_ ?_ ?_
   ·exact⟨⟨_,_,_,rfl⟩,s2,[],PN,⟨rfl,λi a h=>by simp at h⟩,(λa h=>by cases h), .nil⟩
   ·rintro i σ H' _ ⟨_,s3,_⟩;exact .of (Dd (Bh hf))
   ·rintro i x T' σ H' hx ⟨⟨u1,u2,u3,rfl⟩,s3,as,Ju,TA,hn,Js⟩ hT;obtain⟨wx,UL,rfl⟩:=nH hx;have hi:i<c.xs.length:=(AM UL).1;have s4:av H1 (NA T' (.tup [.int i, .str wx])):=Ji qJ;have UM:=Fq (o:= .tup [.int i, .str wx]) hT Ju;have UN:=OA (Ew (o:= .tup [.int i, .str wx]) hT);refine⟨T',_,rfl, .of ae,rfl,_,_,rfl,_,_,rfl,rfl,?_⟩;generalize upd H' T' (.tup [.int i, .str wx])=H4 at s4 UM UN;clear TA Ju s3 hT;refine⟨λσ H5=>∃r,σ=[sR f1,sR g,sR t,some v,sR d,sR e,sI i,sS wx,sR r]/\av H4 H5/\H4 r=none/\H5 r=some (.lst (Kz (Ly i))),?_,?_⟩
    ·have YQ:=s4 _ _ (Bh hg);refine⟨_,rfl,g,rfl,⟨_, .of YQ⟩,λD hD=>?_⟩;refine rL (xs:=J7 V.str) (λj ys bK H5=>(∃w1 w2,bK=[w1,w2,sI i,sR d,sR t,sS wx])/\ys=cO j (Ly i)/\H5 D=some (.lst ys)/\av H4 H5) ⟨⟨_,_,rfl⟩,rfl,ae,Aa hD⟩ ?_ ?_ ?_
     ·rintro j ys bK H5 _ ⟨_,_,_,s5⟩;exact .of (CV YQ)
     ·rintro j y T2 ys bK H5 hy ⟨⟨w1,w2,rfl⟩,rfl,A_,s5⟩ Ml;obtain⟨wy,Ge,rfl⟩:=nH hy;have hj:j<c.ys.length:=(AM Ge).1;have s6:av H4 (DT H5 T2 (.tup [.int j, .str wy])):=HY ZQ;have Jw:=Fq (o:= .tup [.int j, .str wy]) Ml A_;refine⟨T2,_,rfl, .of ae,rfl,_,_,rfl,_,_,rfl,rfl,?_⟩;generalize upd H5 T2 (.tup [.int j, .str wy])=H6 at s6 Jw;refine qg ?_;refine⟨_,rfl,_,rfl,aE A9,λp hp=>?_⟩;have s7:=LF (Ew (o:= .tup [.int (i:Int), .int (j:Int)]) hp);have sA:=J1 s7;have P0:=Fq (o:= .tup [.int (i:Int), .int (j:Int)]) hp Jw;have len:(cO j (Ly i)).length<sizeLine:=bb (by rw[bM];lia);have sn:∀u,u=dU c shut i j->cO j (Ly i)++[bu u]=cO (j+1) (Ly i):=λu e=>by rw[nM,e]
      have W5:c.pw ((i:Int),(j:Int))=dS c.same c.fs wx wy:=OD (by rw[uH];exact UL) (by rw[uH];exact Ge);refine⟨_,rfl,d,_,rfl, .t (k:=bf ((i:Int),(j:Int))) (ZA hd1) ae,_,rfl,?_⟩;rw[hS];refine a9 Fw (λh1=>?_)
      ·have h1:((i:Int),(j:Int))∈shut:=by simpa using h1
       refine⟨P0,len,⟨_,_,rfl⟩,?_,ae,s7.eA hD⟩;exact sn none (by simp[dU,nK,h1])
      ·have h1:((i:Int),(j:Int))∉shut:=by simpa using h1
       obtain⟨n,dx,l,dd,vs,T1,e1,e2,e3,e4⟩:=(GX s1).keep sA;refine⟨_,rfl,t,dx,_,rfl,T1.ob,ado n l dd,_,rfl,_,rfl,t,wx,wy,n,c.fs,dx,l,dd,vs,rfl,T1,λH8 s8=>?_⟩;refine⟨Dm P0,len,⟨_,_,rfl⟩,?_,ae,(Kr s8).eA hD⟩;exact sn _ (by simp[dU,nK,h1,W5,e1])
     ·rintro ys bK H5 ⟨_,rfl,A_,s5⟩;rw[ly]at A_;exact⟨D,rfl,s5,hD,A_⟩
    rintro σ H5 ⟨r,rfl,s5,r6,W6⟩;have abz:r≠e:=Ay (aG UM r6);have hlen:=UN.len;refine⟨_,rfl, .inl ⟨rfl,_, .of (CV UM)⟩,_,rfl,e,_,_,rfl,rfl,CV UM,bb (by rw[List.length_map];lia),⟨_,_,_,rfl⟩,(J1 s5).eA IY,as++[r],by rw[ae];simp,⟨by simp[hlen],λk a hk=>?_⟩,λa ha=>?_,zv ⟨Js,AA,λx hx y hy e9=>?_⟩⟩
    ·by_cases h:k<i
     ·rw[Bi A3]at hk;rw[aq (amD a).2];exact CV (UN.row k a hk)
     ·rw[Br A3]at hk;have xP:k-as.length=0:=by
       have:=(AM hk).1;simp at this
       lia
      rw[xP]at hk;have:r=a:=by simpa using hk
      subst this;rw[aq abz];have:k=i:=by lia
      rw[this];exact W6
    ·rcases List.mem_append.mp ha with ha|ha
     ·exact hn a ha
     ·have:a=r:=by simpa using ha
      rw[this];exact⟨s4.free r6,abz⟩
    ·have hy:y=r:=by simpa using hy
     obtain⟨k,hk,ek⟩:=Gq hx;have:=UN.row k x (by rw[Bu hk,ek]);rw[e9,hy,r6]at this;cases this
   ·rintro σ H' ⟨⟨u1,u2,u3,rfl⟩,s3,as,Ju,TA,hn,Js⟩;rw[lx]at TA;exact⟨⟨_,_,_,rfl⟩,s3,as,Ju,TA,hn,Js⟩
  rintro σ H3 ⟨⟨u1,u2,u3,rfl⟩,s3,as,Ju,TA,hn,Js⟩;exact⟨_,rfl,q H3 e as (Bl s3) Ju (JP IY) TA Js (λz=>(hn e z).2 rfl) λa ha=>JP (hn a ha).1⟩
variable(c_:oE P w K mg base true 4 "Trails" az ["self","worths","terms"] [] (rP az aQ))
variable(iJ:bI P w K mg base true 5 "best_groups" ["trails","worth"] (CH az))
variable(gZ:bI P w K mg base true 6 "make_finding" ["trails","worth","pairs"] (CB az aA))
theorem kK:aK ["worths","terms","trails","worth"] ["worths","terms"] (au gU):=gC
include T Tc fN Rc c_ iJ gZ in
theorem anb(F:jh K "make_round" "make_round" gU f fd):aZ P w K mg base (AU P) true 7 f fd ["worths","terms"] (qy aQ aA):=by
 refine F.f' kK Am gD
 ·obtain⟨w,t,as,c,f,n,m,rfl,_⟩:=h;rfl
 ·obtain⟨w,t,as,c,f1,n,m,rfl,hw,TA,TF,IT,YO,hn,hm,q0,q1⟩:=h;refine⟨_,(AQ (JR (2) kK.nd (zB c_)) (AQ (JR (3) kK.nd (BK fN (AB (JF (show bx ["worths","terms","trails","worth"] (au gU) _ ["row"] [] []from FA) (E7 tS) (λ_ _ _ _ _=>(Af (0) (show(["row"]:List Str).Nodup by decide+kernel))) (λ_ _ _ _ _=>(N6 fN)))))) (AQ (Bp (CO (Cg avQ (EL (Fg Bg (Df Ba))))) (A8 (Az qL))) (A8 (Az (JF (show bx ["worths","terms","trails","worth"] (au gU) _ ["pairs"] [2,3] ["trails","worth"]from FA) (E7 (BK iJ RG)) (λ_ _ _ _ _=>(Af (0) (show(["pairs","trails","worth"]:List Str).Nodup by decide+kernel))) (λ_ _ _ _ _=>(BK gZ (HR tT))))))))),?_⟩;refine⟨λσ H1=>∃x dx e b es,σ=[sR w,sR t,sR x,none]/\av H H1/\H1 x=some (.ins az dx Oh)/\H1 e=some (.lst RL)/\fE H1 es (VH f1) n m/\(0<n->∃bs,rO H1 az x dx e b es bs f1 c.out c.into n m),?_,?_⟩
  ·refine⟨_,rfl,_,rfl,λx dx hx xK ed=>?_⟩;have s5:av H (upd yc x (.ins az dx [])):=(Aa xK).eA hx;refine⟨x,dx,w,t,c,as,f1,n,m,rfl,ae,by rw[aq ed];exact ae,CV hw,OA s5,GX s5,hn,hm,λH6 e b sb Mt Te Tb=>?_⟩;obtain⟨es,he,_,TE,_⟩:=Te;refine⟨rfl,x,dx,e,b,es,rfl,M4 hx xK,Mt,he,TE,λh=>?_⟩;obtain⟨bs,hb,_,TB',_⟩:=Tb h;exact⟨bs,Mt,he,TE,hb,TB'⟩
  rintro σ H1 ⟨x,dx,e,b,es,rfl,s1,mB,CQ,TE,TRs⟩;have Le:es.length=n:=TE.len;refine⟨λσ H2=>σ=[sR w,sR t,sR x,some (bu (K3 f1 c.out c.into n m))]/\av H1 H2,?_,?_⟩
  ·refine⟨_,rfl,x,az,dx,_,_,rfl,mB,Rc.cl,Rc.i6,QD c.out,e,rfl,⟨_, .of CQ⟩,λD hD=>?_⟩;refine jy (xs:=Nk V.ref) (λk ys bK H'=>(∃u,bK=[u])/\ys=((B5 k).map λi=>bu (qj ((B5 m).map acp)))/\H' D=some (.lst ys)/\av H1 H') ⟨⟨_,rfl⟩,rfl,ae,Aa hD⟩ ?_ ?_ ?_
   ·rintro k ys bK H' _ ⟨_,_,_,s2⟩;exact .of (BY CQ)
   ·rintro k v ys bK H' hv ⟨⟨u,rfl⟩,rfl,pX,s2⟩;have hk:k<n:=by rw[<-Le];have:=(AM hv).1;simpa using this
    obtain⟨rb,g1,g2,g3⟩:=TE.at hk;rw[hv]at g2;cases g2;refine rD ?_;refine⟨_,rfl,rb,(B5 m).map (Oq k),rfl,?_,by simpa using hm,λWC s3=>?_⟩
    ·rw[BY g3,List.map_map];rfl
    ·refine⟨Dd pX,bb (by simp;lia),⟨_,rfl⟩,?_,ae,(GP s3).eA hD⟩;rw[List.range_succ,List.map_append];rfl
   ·rintro ys bK H' ⟨_,rfl,pX,s2⟩;rw[List.length_map,Le]at pX;refine⟨D,(B5 n).map λi=>qj ((B5 m).map acp),rfl,by rw[pX,List.map_map];rfl,by simpa using hn,λWC s3=>⟨rfl,GP s3⟩⟩
  rintro σ H2 ⟨rfl,s2⟩;have Mu:=Bl s2;obtain⟨nu,dt,l,d,vs,TM,z1,z2,z3,z4⟩:=GX Mu;have MX:=adh IT c.out c.into;refine⟨λσ H3=>∃W,K3 f1 c.out c.into n m=some W/\c.least<=W/\σ=[sR w,sR t,sR x,sI W]/\H3=H2,?_,?_⟩
  ·refine⟨_,rfl,_,rfl,?_⟩;cases eT:K3 f1 c.out c.into n m with
   |none=>
    rw[eT]at MX;refine j1 ?_;refine j1 ?_;exact⟨aE A9,λr r6=>ζ (λps hp=>BO ⟨ps,hp,rfl⟩ (MX _)) r⟩
   |some W=>
    rw[eT]at MX;refine a9 (λhh=>absurd hh (by simp[bu])) (λ_=>?_);refine⟨_,rfl,_,rfl,t,aQ,dt,_,_,rfl,TM.ob,Tc.cl,Tc.least,aeX nu l d,_,_,rfl,rfl,_,rfl,?_⟩;refine a9 Dg (λhh=>?_)
    ·have hh:W<nu.least:=by simpa using hh
     rw[z4]at hh;exact⟨aE A9,λr r6=>ζ (λps hp=>by have:=MX.2 _ ⟨ps,hp,rfl⟩;lia) r⟩
    ·have hh:¬W<nu.least:=by simpa using hh
     rw[z4]at hh;exact⟨W,rfl,by lia,rfl,rfl⟩
  rintro σ H2 ⟨W,eT,hle,rfl,rfl⟩;rw[eT]at MX;obtain⟨YS,w0,YT⟩:=MX.1;have TP:eG f1 c.out c.into W:=λps hp=>MX.2 _ ⟨ps,hp,rfl⟩
  have WR:0<n:=by
   obtain⟨i,j,_,hi,_⟩:=kF IT w0 tN
   lia
  obtain⟨bs,TR⟩:=TRs WR;have abS:=Fz s2;refine⟨_,rfl,_,rfl,x,dx,e,b,es,bs,f1,c.out,c.into,n,m,W,rfl,abS,IT,YO,hn,hm,TP,λH3 r us gs s3 r6 wu W3 Ph TD=>?_⟩;have Lm:∀g∈gs,∀a∈g,∃i j:Nat,a=aN (i,j)/\i<n/\j<m:=λg hg a ha=>by
   obtain⟨ps,wp,hm⟩:=(TD.mem hg ha).on;exact kF IT wp.1 hm
  have rg:∀g∈gs,g.length<=n*m:=λg hg=>by
   have:=len_sub g (wj n m) ((TD.uO g hg).imp λ{a b} h e=>by
    rw[e]at h;unfold kW at h;simp at h) λa ha=>by
    obtain⟨i,j,rfl,hi,hj⟩:=Lm g hg a ha;exact qx hi hj
   rw[qw]at this;exact this
  have GZ:=TD.Bz Lm;have W7:gs≠[]:=λz=>by
   obtain⟨i,j,h1,_⟩:=kF IT w0 tN;obtain⟨g,hg,_⟩:=TD.all _ (f7.way YS ⟨w0,YT.symm⟩ tN (dz w0.ne));rw[z]at hg;cases hg
  have hW:=W3.1;refine⟨r,rfl,⟨_, .of wu⟩,λD hD=>?_⟩;refine jy (xs:=us) (λk ys bK H'=>(∃u,bK=[u,sR x,sI W])/\H' D=some (.lst ys)/\av H3 H'/\∃ds,cK (λb=>H2 b=none/\b≠D) H' aA ys ds/\ds.map Fd.pairs=gs.take k/\∀d∈ds,ON f1 c.out c.into W d) ⟨⟨_,rfl⟩,ae,Aa hD,[], .nil,rfl,λd h=>(by cases h)⟩ ?_ ?_ ?_
  ·rintro k ys bK H' _ ⟨_,_,s4,_⟩;exact .of (Cu wu)
  ·rintro k v ys bK H' hv ⟨⟨u,rfl⟩,Jx,s4,ds,F4,SM,cc⟩;have hk:k<gs.length:=by rw[<-hW];exact(AM hv).1
   have ek:gs[k]?=some gs[k]:=by simp[hk]
   have jK:gs[k]∈gs:=EZ hk;generalize gs[k]=g at ek jK;obtain⟨pa,aci,k1,k2,k3⟩:=W3.2 k g ek;rw[hv]at k1;cases k1;have aiq:=Ph k pa hv;have SN:pa≠D:=λz=>by rw[z,hD]at k2;cases k2
   obtain⟨gn,SO⟩:∃gn:List (Nat×Nat),g=gn.map aN:=by
    refine⟨g.map λa=>(a.1.toNat,a.2.toNat),?_⟩;rw[List.map_map]
    conv=>lhs;rw[<-List.map_id g]
    apply List.map_congr_left;intro a ha;obtain⟨i,j,rfl,_⟩:=Lm g jK a ha;simp[aN]
   obtain⟨i0,j0,z5,z6,z7,z8⟩:∃i j:Nat,dh f1 c.out c.into i j=some W/\i<n/\j<m/\aN (i,j)∈g:=by
    obtain⟨a,ha⟩:=List.exists_mem_of_ne_nil _ (TD.ne g jK);obtain⟨i,j,h1,h2,h3,h4⟩:=amj TP IT (TD.mem jK ha);exact⟨i,j,h1,h2,h3,(TD.cls g jK a ha _).mpr h4⟩
   have aot:gn.filter (λq=>decide (dh f1 c.out c.into q.1 q.2=some W))≠[]:=λz=>by
    rw[SO]at z8;obtain⟨q9,hq9,e9⟩:=E4 z8;obtain⟨e91,e92⟩:=jk (a:=q9.1) (b:=q9.2) e9;have:q9∈gn.filter (λq=>decide (dh f1 c.out c.into q.1 q.2=some W)):=pJ ⟨hq9,by rw[e91,e92];simpa using z5⟩;rw[z]at this;cases this
   obtain⟨vo,Lh⟩:∃q0,(gn.filter λq=>decide (dh f1 c.out c.into q.1 q.2=some W))[0]?=some q0:=by
    cases e9:gn.filter (λq=>decide (dh f1 c.out c.into q.1 q.2=some W))with
    |nil=>exact BO e9 aot
    |cons a r=>exact⟨a,rfl⟩
   have abB:=N_ (B7 Lh);have aqy:dh f1 c.out c.into vo.1 vo.2=some W:=by simpa using abB.2
   have TR4:=abS.keep i_;refine rD ?_;refine⟨_,rfl,_,rfl,_,rfl,x,dx,e,b,es,bs,f1,c.out,c.into,n,m,W,pa,aci,gn,vo,rfl,TR4,Cu k2,by rw[<-SO];exact k3.same s4,λq hq=>?_,Lh,hn,?_,λH5 y dy wy rw iC s5 hy OW Ge W' hy5 abD agE P5 W6=>?_⟩
   ·have:aN q∈g:=by rw[SO];exact List.mem_map.mpr ⟨q,hq,rfl⟩
    obtain⟨i,j,h1,h2,h3⟩:=Lm g jK _ this;obtain⟨h4,h5⟩:=jk (a:=q.1) (b:=q.2) h1
    lia
   ·have:=rg g jK;rw[SO,List.length_map]at this
    lia
   ·obtain⟨v1,v2,v3,v4⟩:=aoS f1 c.out c.into vo.1 vo.1 vo.2 W Bj aqy;have hlW:=F4.1;have abE:ds.length=k:=by
     have:=ZV SM;rw[List.length_map,List.length_take]at this
     lia
    have nD:∀{z},H' z=none->z≠D:=λh z=>by rw[z,Jx]at h;cases h
    have Xb:av H2 H':=Ji s4;refine⟨CV Jx,bb A3,⟨_,rfl⟩,ae,(J1 s5).eA hD,ds++[⟨W,(Qf f1).map aN,AY (lf f1) c.out c.into ((Qf f1).map aN),g⟩],?_,?_,λd hd=>?_⟩
    ·refine cK.append (F4.keep (λb o hb e=>by rw[aq hb.2];exact CV e) (λa v e=>by rw[aq (λz=>by rw[z,Jx]at e;cases e)];exact CV e) λ_ h=>h) ⟨rfl,λk9 d9 e9=>?_⟩;have hk9:k9=0:=by
      have:=(AM e9).1;simp at this
      lia
     subst hk9;have e9:=(Aw e9).symm;subst e9;have T5:eC H5 (DT H5 D (.lst (ys++[.ref y]))):=Q0 (CV Jx);refine⟨y,dy,wy,rw,pa,iC,aci,rfl,⟨by rw[aq (nD hy)];exact hy5,by rw[aq (nD Ge)];exact agE,P5.cT T5,?_,by rw[aq SN];exact CV (Cu k2),((k3.same s4).same s5).cT T5,⟨Xb.free hy,nD hy⟩,⟨Xb.free Ge,nD Ge⟩,⟨Xb.free W',nD W'⟩,⟨aiq,SN⟩⟩⟩;rw[aq (nD W'),W6]
     congr 2
     have:=Eu (List.map bu) v4;rw[List.map_map,List.map_map]at this;exact this
    ·rw[List.map_append,SM,List.take_succ,ek];rfl
    ·rcases List.mem_append.mp hd with hd|hd
     ·exact cc d hd
     ·have:d=⟨W,(Qf f1).map aN,AY (lf f1) c.out c.into ((Qf f1).map aN),g⟩:=by simpa using hd
      subst this;refine⟨rfl,⟨v1,v3⟩,rfl,λq hq=>?_⟩;have SJ:aN vo∈g:=by rw[SO];exact EY ⟨_,abB.1,rfl⟩
      have v2:lstP ((Qf f1).map aN)=aN vo:=v2;exact(TD.cls g jK _ SJ q).mpr (.way _ ⟨v1,v3⟩ (by rw[<-v2];exact dz v1.ne) hq)
  ·rintro ys bK H' ⟨_,Jx,s4,ds,F4,SM,cc⟩;rw[hW,List.take_length]at SM;have sA:=ξ i_;exact q1 W gs ds ⟨TP,⟨YS,w0,YT.symm⟩,hle,TD,SM,cc⟩ W7 _ D ys sA ((ξ s3).free hD) Jx (F4.keep RH (λ_ _ h=>h) λb hb=>Mu.free hb.1)
theorem iK:aK ["worths","findings","finding","i","j"] ["worths","findings"] (au lQ):=gC
include T Fc in
theorem ajP(F:jh K "shut_pairs" "shut_pairs" lQ f fd):aZ P w K mg base (AU P) true 1 f fd ["worths","findings"] (u_ aA):=by
 refine F.f' iK Am gD
 ·obtain⟨w,md,as,us,ds,f,n,m,rfl,_⟩:=h;rfl
 ·obtain⟨w,md,as,us,ds,f1,n,m,rfl,hw,RV,nw,TA,YW,nmd,FL,pW,q⟩:=h;refine⟨_,arQ,?_⟩;have rows:∀a∈as,∃xs,H a=some (.lst xs):=λa ha=>by
   obtain⟨k,hk,ek⟩:=Gq ha;exact⟨_,TA.row k a (by rw[Bu hk,ek])⟩
  have cT:∀H',(∀b o,b∉as->H b=some o->H' b=some o)->eC H H':=λH' k t v e=>k t _ (λz=>by
   obtain⟨xs,h⟩:=rows t z;rw[e]at h;cases h) e
  have hlen:=FL.1;refine⟨_,rfl,md,rfl,⟨_, .of YW⟩,?_⟩;refine br (xs:=us) (λk σ H1=>(∃u1 u2 u3,σ=[sR w,sR md,u1,u2,u3])/\(∀b o,b∉as->H b=some o->H1 b=some o)/\fE H1 as (jL f1 ((W0 k).map Fd.pairs).flatten) n m) ⟨⟨_,_,_,rfl⟩,λ_ _ _ h=>h,TA⟩ ?_ ?_ ?_
  ·rintro k σ H1 _ ⟨_,k1,_⟩;exact .of (k1 _ _ nmd YW)
  ·rintro k v σ H1 hv ⟨⟨u1,u2,u3,rfl⟩,k1,T1⟩;have hk:k<ds.length:=by rw[<-hlen];exact(AM hv).1
   have ek:ds[k]?=some ds[k]:=by simp[hk]
   have jK:ds[k]∈ds:=EZ hk;generalize ds[k]=d at ek jK;obtain⟨a,dy,wy,il,pr,mC,iC,e1,F⟩:=R7 d;rw[hv]at e1;cases e1;have qb:=F.pp.1;have et:((W0 (k+1)).map Fd.pairs).flatten=((W0 k).map Fd.pairs).flatten++d.pairs:=by
    rw[List.take_succ,ek,List.map_append,List.flatten_append];simp
   refine⟨_,rfl,a,aA,dy,_,_,rfl,k1 _ _ F.fa F.ob,Fc.cl,Fc.pairs,VP pr,pr,rfl,⟨_, .of (k1 _ _ F.fp F.hp)⟩,?_⟩;refine br (xs:=iC) (λl σ H2=>(∃u2 u3,σ=[sR w,sR md,sR a,u2,u3])/\(∀b o,b∉as->H b=some o->H2 b=some o)/\fE H2 as (jL f1 (((W0 k).map Fd.pairs).flatten++d.pairs.take l)) n m) ⟨⟨_,_,rfl⟩,k1,by simpa using T1⟩ ?_ ?_ ?_
   ·rintro l σ H2 _ ⟨_,k2,_⟩;exact .of (k2 _ _ F.fp F.hp)
   ·rintro l v σ H2 Jy ⟨⟨v2,v3,rfl⟩,k2,T2⟩;have hl:l<d.pairs.length:=by rw[<-qb];exact(AM Jy).1
    have el:d.pairs[l]?=some d.pairs[l]:=by simp[hl]
    have hq:=pW d jK d.pairs[l] (EZ hl);generalize d.pairs[l]=g at el hq;obtain⟨i,j,rfl,hi,hj⟩:=hq;obtain⟨t,g1,g2⟩:=F.pp.2 l _ el;rw[Jy]at g1;cases g1;have kt:=cT H2 k2 _ _ g2;refine⟨t,_,rfl, .of kt,rfl,_,_,rfl,_,_,rfl,rfl,?_⟩;obtain⟨ra,r1,r2,r3⟩:=T2.at hi;have OT:ra∈as:=B7 r1;refine⟨_,rfl,_,rfl,w,_,_,_,rfl,rfl, .of (k2 _ _ nw hw),ar r2,_,rfl,ra,_,_,j,rfl,rfl,r3,anZ (by rw[bM];exact hj),⟨_,_,rfl⟩,λb o hb e=>?_,⟨T2.len,λx b hb=>?_⟩⟩
    ·rw[aq (λz=>hb (by rw[z];exact OT))];exact k2 b o hb e
    ·have YX:d.pairs.take (l+1)=d.pairs.take l++[aN (i,j)]:=by rw[List.take_succ,el];rfl
     by_cases e:b=ra
     ·have ex:x=i:=by
       obtain⟨h1,e1⟩:=AM hb;obtain⟨h2,e2⟩:=AM r1;exact(YZ RV).mp (by rw[e1,e2,e])
      subst ex e;rw[ae];show some (HO.lst ((cO m _).set j (bu none)))=_;rw[avW]
      congr 2
      unfold cO;apply List.map_congr_left;intro y _;unfold jL;rw[YX,<-List.append_assoc]
      congr 1
      dsimp only;by_cases ey:y=j
      ·subst ey;rw[if_pos rfl,if_pos A9]
      ·rw[A6 ey];have:¬aN (x,y)=aN (x,j):=λz=>ey (jk z).2
       simp[this]
     ·rw[aq e,T2.row x b hb]
      congr 2
      unfold cO;apply List.map_congr_left;intro y _;unfold jL;rw[YX,<-List.append_assoc];have:¬aN (x,y)=aN (i,j):=λz=>by
       have hk:=(jk z).1;subst hk;rw[r1]at hb;exact e (Aw hb).symm
      simp[this]
   ·rintro σ H2 ⟨⟨v2,v3,rfl⟩,k2,T2⟩;rw[qb,List.take_length]at T2;exact⟨⟨_,_,_,rfl⟩,k2,by rw[et];exact T2⟩
  ·rintro σ H1 ⟨_,k1,T1⟩;rw[hlen,List.take_length]at T1;exact q H1 k1 (cT H1 k1) T1
variable(e7:GH mg "FINDINGS_MOST" (.int 20))
variable(bW:bI P w K mg base true 2 "open_worths" ["first","second","terms","taken"] (u0 aQ))
variable(g7:bI P w K mg base true 7 "make_round" ["worths","terms"] (qy aQ aA))
variable(jr:bI P w K mg base true 1 "shut_pairs" ["worths","findings"] (u_ aA))
variable(l0:bI P w K mg base true 1 "order_of" ["finding"] (uR aA))
variable(lg:Er K mg "TooMany" nZ)
theorem jQ:aK ["first","second","terms","worths","findings","made"] ["first","second","terms"] (au rY):=gC
include T jP e7 bW g7 jr l0 lg in
theorem ajk(F:jh K "compare" "compare" rY f fd):aZ P w K mg base (AU P) true 8 f fd ["first","second","terms"] (yU aQ aA nZ):=by
 refine F.f' jQ Am gD
 ·obtain⟨a,b,t,c,rfl,_⟩:=h;rfl
 ·obtain⟨a,b,t,c,rfl,ha,hb,TF,hx,hy,q1,q2⟩:=h;refine⟨_,(AQ (AZ (3) jQ.nd (BK bW (Ff (HR (Ij ayB))))) (AQ (FX (4) jQ.nd) (AQ Ι (AQ (mG (Cb oC avV ai) (AQ (BR (wC K BP)) (AQ (Bp (Cb oC (C9 Ot) (Jc e7)) (A8 (ZD lg.m lg.e (AB (XJ (Qu (xC (Nr (Jc e7))))))))) (AQ (BR (BK jr (V6 Bg))) (A8 Ι))))) (A8 atj))))),?_⟩;have Cr:c.xs.length*c.ys.length<=3000:=qE (KO hx hy);have Xc:=Cm c [];refine⟨λσ H1=>∃w as,σ=[sR a,sR b,sR t,sR w,none,none]/\av H H1/\H1 w=some (.lst Dt)/\fE H1 as (Md c) c.xs.length c.ys.length/\as.Nodup/\w∉as/\∀a∈as,H a=none,?_,?_⟩
  ·exact⟨_,rfl,_,rfl,_,rfl,a,b,t, .de,c,[],rfl,ha,hb,TF, .inl ⟨rfl,rfl⟩,AA,by lia,by lia,λH1 w as s1 h1 _ h3 h4 h5 h6=>⟨w,as,rfl,s1,h1,h3,h4,h5,h6⟩⟩
  rintro σ H1 ⟨w,as,rfl,s1,tO,Xd,RV,nw,has⟩;refine⟨λσ H2=>∃fl,σ=[sR a,sR b,sR t,sR w,sR fl,none]/\av H1 H2/\H1 fl=none/\H2 fl=some (.lst []),⟨aE A9,λfl h=>⟨fl,rfl,Aa h,h,ae⟩⟩,?_⟩;rintro σ H2 ⟨fl,rfl,s2,O0,acE⟩;have alloc:∀x∈as,∃xs,H1 x=some (.lst xs):=λx hx=>by
   obtain⟨k,hk,ek⟩:=Gq hx;exact⟨_,Xd.row k x (by rw[Bu hk,ek])⟩
  have aan:fl∉as:=λz=>by
   obtain⟨xs,h⟩:=alloc fl z;rw[O0]at h;cases h
  have Ln:w≠fl:=aG tO O0;have rd:∀f H3,(∀x∈as,∃xs,H3 x=some (.lst xs))->H3 w=some (.lst Dt)->fE H3 as f c.xs.length c.ys.length->av H H3->∀done,Reach DA c.out c.into c.least done f->∀(Q':VK)(E':XK),(∀H4 r,av H3 H4->H3 r=none->∀us ds,H4 r=some (.lst us)->cK (λb=>H3 b=none) H4 aA us ds->((us=[]/\ds=[]/\Stop f c.out c.into c.least)∨(us≠[]/\∃W gs,kx f))->Q' (.ref r) H4)->qy aQ aA [.ref w, .ref t] H3 Q' E':=λf H3 al h3 T3 s3 done RC Q' E' k=>by
   refine⟨w,t,as,c,f,_,_,rfl,h3,T3,GX s3,RC.WG Xc,Cr,by lia,by lia,λst H4 r s4 h4 h5=>k H4 r s4 h4 [] [] h5 .nil (.inl ⟨rfl,rfl,st⟩),λW gs ds R W7 H4 r us s4 h4 h5 FL=>k H4 r s4 h4 us ds h5 FL (.inr ⟨λz=>W7 ?_,W,gs,R⟩)⟩;have:=FL.1;rw[z]at this;have:ds=[]:=L4 (by simpa using this.symm);rw[<-R.Jr,this];rfl
  have ayG:∀b o,b∉as->b≠fl->H1 b=some o->H2 b=some o:=λb o _ _ e=>s2 b o e
  have P6:=Bl s2;refine⟨λσ H3=>∃md us ds,σ=[sR a,sR b,sR t,sR w,sR fl,sR md]/\av H2 H3/\H2 md=none/\H3 md=some (.lst us)/\cK KD H3 aA us ds/\((us=[]/\ds=[]/\Stop DA c.out c.into c.least)∨(us≠[]/\∃W gs,kx DA)),?_,?_⟩
  ·exact⟨_,rfl,_,rfl,rd _ H2 (λx hx=>let ⟨xs,h⟩:=alloc x hx;⟨xs,BY h⟩) (BY tO) (Xd.same s2) P6 [] .start _ _ λH4 r s4 h4 us ds h5 FL z=>⟨r,us,ds,rfl,s4,h4,h5,FL,z⟩⟩
  rintro σ H3 ⟨md,us,ds,rfl,s3,Lo,aeH,FL3,Z3⟩;refine⟨λσ H5=>∃md ul es f,σ=[sR a,sR b,sR t,sR w,sR fl,sR md]/\av H H5/\H5 fl=some (.lst ul)/\cK KD H5 aA ul es/\Reach DA c.out c.into c.least es f/\Stop f c.out c.into c.least/\es.length<=20,?_,?_⟩
  ·refine⟨λmm σ H4=>∃md us ds ul es f,mm+es.length=20/\σ=[sR a,sR b,sR t,sR w,sR fl,sR md]/\av H H4/\(∀b o,b∉as->b≠fl->H2 b=some o->H4 b=some o)/\fE H4 as f c.xs.length c.ys.length/\H4 fl=some (.lst ul)/\cK KD H4 aA ul es/\Reach DA c.out c.into c.least es f/\H2 md=none/\H4 md=some (.lst us)/\cK KD H4 aA us ds/\((us=[]/\ds=[]/\Stop f c.out c.into c.least)∨(us≠[]/\∃W gs,kx f)),⟨20,md,us,ds,[],[],Md c,rfl,rfl,P6.trans s3,λb o _ _ e=>s3 b o e,(Xd.same s2).same s3,Dd acE, .nil, .start,Lo,aeH,FL3,Z3⟩,?_⟩;rintro mm σ H4 ⟨md,us,ds,ul,es,f1,hmm,rfl,sH,k4,T4,Lp,FE,RC,Lo,O1,FD,Z4⟩;have H2s:∀x∈as,∃xs,H2 x=some (.lst xs):=λx hx=>let ⟨xs,h⟩:=alloc x hx;⟨xs,BY h⟩
   have P2:∀{b},H2 b=none->b∉as:=λ{b} h z=>by
    obtain⟨xs,h'⟩:=H2s b z;rw[h]at h';cases h'
   have Xf:∀{b},H2 b=none->b≠fl:=λ{b} h z=>by rw[z,acE]at h;cases h
   have UO:=FE.1;have hlD:=FD.1;refine⟨_,rfl,md,_,rfl, .inl (.of O1),_,_,rfl,rfl,_,rfl,?_⟩;refine a9 Dg (λhh=>?_)
   ·have hh:0<us.length:=by simpa using hh
    rcases Z4 with⟨z1,_,_⟩|⟨Y0,W,gs,R⟩
    ·rw[z1]at hh;simp at hh
    have Uy:ds.length<=c.xs.length*c.ys.length:=by
     have:=R.told.Bz (n:=c.xs.length) (m:=c.ys.length) λg hg q hq=>by
      obtain⟨ps,wp,hm⟩:=(Q6 hg hq).on;exact kF (RC.WG Xc) wp.1 hm
     rw[<-R.Jr,List.length_map]at this;exact this
    refine⟨_,λbK H' z=>z,?_⟩;have nmf:md≠fl:=Xf Lo;refine⟨λσ H5=>σ=[sR a,sR b,sR t,sR w,sR fl,sR md]/\H5=upd H4 fl (.lst (ul++us)),⟨_,rfl, .inl ⟨rfl,_, .of Lp⟩,_,rfl,fl,md,ul,us,rfl,rfl,Lp,O1,aE A3,rfl,rfl⟩,?_⟩;rintro σ H5 ⟨rfl,rfl⟩;have Y1:av H (Qi fl):=sH.eA (JP O0);have aat:eC H4 (Qi fl):=Q0 Lp;have FE5:cK KD (Qi fl) aA ul es:=FE.keep (λb o hb e=>by rw[aq (Xf hb)];exact e) aat λ_ h=>h
    have abR:cK KD (Qi fl) aA us ds:=FD.keep (λb o hb e=>by rw[aq (Xf hb)];exact e) aat λ_ h=>h
    have Xg:=RC.round R;refine⟨λσ H6=>σ=[sR a,sR b,sR t,sR w,sR fl,sR md]/\H6=upd H4 fl (.lst (ul++us))/\(es++ds).length<=20,?_,?_⟩
    ·refine⟨_,rfl,fl,_,rfl, .inl (.of ae),_,_,rfl,rfl,_,rfl,?_⟩;refine a9 (λh9=>?_) (λh9=>?_)
     ·have h9:20<(ul++us).length:=by
       have:(20:Int)<((ul++us).length:Nat):=by simpa using h9
       lia
      have:=q2 _ _ Xg (by rw[List.length_append]at h9⊢;lia) _ Y1;have z:(20:Int).natAbs.log2<1920/\(D7 (Sl (20:Int))).length<=6:=⟨AN,by decide+kernel⟩
      have w1:(D7 "there are at most ").length=18:=by decide+kernel
      have w2:(D7 " findings between two books").length=27:=by decide+kernel
      have w3:=nG;refine⟨_,rfl,aE ?_, .inr ⟨20,rfl,z.1,_,rfl,aE ?_,_,rfl,aE ?_,aE ?_,iR,this⟩⟩;all_goals (simp only[len_app];lia)
     ·have h9:¬20<(ul++us).length:=by
       have:¬(20:Int)<((ul++us).length:Nat):=by simpa using h9
       lia
      exact⟨rfl,rfl,by rw[List.length_append]at h9⊢;lia⟩
    rintro σ H6 ⟨rfl,rfl,hle⟩;refine⟨λσ H7=>σ=[sR a,sR b,sR t,sR w,sR fl,sR md]/\(∀b o,b∉as->upd H4 fl (.lst (ul++us)) b=some o->H7 b=some o)/\eC (Qi fl) H7/\fE H7 as (nE f1) c.xs.length c.ys.length,?_,?_⟩
    ·refine⟨_,rfl,_,rfl,w,md,as,us,ds,f1,_,_,rfl,by rw[aq Ln];exact xk Ln,RV,nw,⟨T4.len,λi x hx=>by rw[aq (λz=>aan (by rw[<-z];exact B7 hx))];exact T4.row i x hx⟩,by rw[aq nmf];exact O1,P2 Lo,abR.keep RH (λ_ _ h=>h) (λ_ h=>P2 h),λd hd q hq=>?_,λH7 k7 t7 T7=>⟨rfl,k7,t7,by rw[<-R.Jr];exact T7⟩⟩;have hg:d.pairs∈gs:=by rw[<-R.Jr];exact EY ⟨d,hd,rfl⟩
     obtain⟨ps,wp,hm⟩:=(Q6 hg hq).on;exact kF (RC.WG Xc) wp.1 hm
    rintro σ H7 ⟨rfl,k7,t7,T7⟩;have Y4:av H H7:=λb o e=>k7 b o (λz=>by rw[has b z]at e;cases e) (Y1 b o e)
    have Y5:∀x∈as,∃xs,H7 x=some (.lst xs):=λx hx=>by
     obtain⟨k,hk,ek⟩:=Gq hx;exact⟨_,T7.row k x (by rw[Bu hk,ek])⟩
    have w7:H7 w=some (.lst Dt):=k7 w _ nw (by rw[aq Ln];exact xk Ln);have F7:cK KD H7 aA (ul++us) (es++ds):=(FE5.append abR).keep (λb o hb e=>k7 b o (P2 hb) e) t7 λ_ h=>h
    have Y6:H7 fl=some (.lst (ul++us)):=k7 fl _ aan ae;refine⟨_,rfl,_,rfl,rd _ H7 Y5 w7 T7 Y4 _ Xg _ _ λH8 r s8 h8 us8 ds8 hr8 FL8 Z8=>?_⟩;have aba:∀b,H7 b=none->H2 b=none:=λb h=>by
     cases e:H2 b with
     |none=>rfl
     |some o=>
      by_cases Xh:b∈as
      ·obtain⟨xs,h'⟩:=Y5 b Xh;rw[h]at h';cases h'
      ·by_cases Xi:b=fl
       ·rw[Xi,Y6]at h;cases h
       ·rw[k7 b o Xh (by rw[aq Xi];exact k4 b o Xh Xi e)]at h;cases h
    refine⟨20-(es++ds).length,?_,r,us8,ds8,ul++us,es++ds,_,by lia,rfl,Y4.trans s8,λb o h1 h2 e=>s8 b o (k7 b o h1 (by rw[aq h2];exact k4 b o h1 h2 e)),T7.same s8,Dm Y6,F7.keep (λb o _ e=>s8 b o e) (Ex s8) λ_ h=>h,Xg,aba r h8,hr8,FL8.keep RH (λ_ _ h=>h) λb h=>aba b h,Z8⟩;rw[List.length_append]at hle⊢
    lia
   ·have hh:us.length=0:=by
     have:¬(0:Int)<(us.length:Nat):=by simpa using hh
     lia
    rcases Z4 with⟨_,_,z3⟩|⟨Y0,_⟩
    ·exact⟨md,ul,es,f1,rfl,sH,Lp,FE,RC,z3,by lia⟩
    ·exact BO (L4 hh) Y0
  rintro σ H5 ⟨md,ul,es,f1,rfl,sH,age,FE,RC,ST,hle⟩;have UO:=FE.1;have AP:=RC.apart;have SS:∀d∈es,j5 d.pairs∈d.pairs:=λd hd=>by
   cases e:d.pairs with
   |nil=>exact BO e (AP.uO d hd).2
   |cons a r=>simp[j5]
  refine⟨_,rfl,fl,ul,Nk (λd=>(-d.worth,j5 d.pairs)),rfl, .of age,by rw[List.length_map];lia,?_,by lia,λi v H6 hv s6=>?_,λp H6 D hp hs s6 hD Jw=>?_⟩
  ·refine List.pairwise_map.mpr (wI (λ{x y} hx hy Cr e=>?_) AP.ap);have:=(Hi e).2;exact Cr _ (SS x hx) (by rw[this];exact SS y hy)
  ·have hi:i<es.length:=by rw[<-UO];exact(AM hv).1
   have ei:es[i]?=some es[i]:=by simp[hi]
   have jK:es[i]∈es:=EZ hi;have eg:(es.map λd=>(-d.worth,j5 d.pairs)).getD i (0,(0,0))=(-es[i].worth,j5 es[i].pairs):=by simp[hi]
   rw[eg];generalize es[i]=d at ei jK;obtain⟨x,dy,wy,il,pr,mC,iC,e1,F⟩:=FE.2 i d ei;rw[hv]at e1;cases e1;exact⟨x,dy,wy,il,pr,d.worth,iC,d.pairs,rfl,EW F.ob,EW F.hp,F.pp.same s6,(AP.uO d jK).2,λH7 k t s7 hk ht=>⟨s7,k,t,rfl,hk,ht⟩⟩
  ·have rg:p.toList.Perm (B5 es.length):=by rw[<-UO];exact hp
   have O2:∀i∈p.toList,i<es.length:=λi hi=>by simpa using rg.mem_iff.mp hi
   have dflt:Fd:=⟨0,[],[],[]⟩
   refine q1 (p.toList.map λi=>p7 i) ⟨⟨es,f1,RC,ST,?_⟩,?_,?_⟩ _ D _ ((sH.trans s6).eA (VG hD)) (VG hD) ae ?_
   ·have e1:(B5 es.length).map (λi=>p7 i)=es:=by
     apply List.ext_getElem
     ·simp
     ·intro i h1 h2;simp[h2]
    have:=rg.map λi=>p7 i
    rw[e1]at this;exact this
   ·rw[List.length_map,rg.length_eq,List.length_range];exact hle
   ·rw[List.pairwise_map,List.pairwise_iff_getElem];intro i j hi hj vV;have hsz:p.size=es.length:=by have:=rg.length_eq;simpa using this
    have:=hs i j vV (by rw[UO,<-hsz];simpa using hj);have g1:gd p i=p.toList[i]:=by rw[HM];simp at hi;simp[hi]
    have g2:gd p j=p.toList[j]:=by rw[HM];simp at hj;simp[hj]
    rw[g1,g2]at this;have l1:=O2 _ (EZ hi);have l2:=O2 _ (EZ hj);generalize p.toList[i]=x at this l1;generalize p.toList[j]=y at this l2;unfold kl BE at this;unfold R9;simp only[List.getD_eq_getElem?_getD,List.getElem?_map,Bu l1,Bu l2,Option.map_some,Option.getD_some]at this⊢;by_cases ew:es[x].worth=es[y].worth
    ·rw[A7 ew];rw[A7 (by rw[ew])]at this;exact this
    ·rw[A6 ew];rw[A6 (λz=>ew A3)]at this;simp at this⊢
     lia
   ·refine⟨AA,λk d hk=>?_⟩;rw[List.getElem?_map]at hk;cases e:p.toList[k]? with
    |none=>rw[e]at hk;cases hk
    |some i=>
     rw[e]at hk;have hi:=O2 i (B7 e);have hd:es.getD i dflt=d:=by simpa using hk
     have ei:es[i]?=some d:=by rw[<-hd];simp[hi]
     obtain⟨x,dy,wy,il,pr,mC,iC,e1,F⟩:=FE.2 i d ei;have nD:∀{b o},H5 b=some o->b≠D:=λh z=>by rw[z,hD]at h;cases h
     refine⟨x,dy,wy,il,pr,mC,iC,?_,F.ob|>λh=>⟨by rw[aq (nD h)];exact EW h,by rw[aq (nD F.hw)];exact EW F.hw,(F.pw.same s6).same (Aa Jw),by rw[aq (nD F.hr)];exact EW F.hr,by rw[aq (nD F.hp)];exact EW F.hp,(F.pp.same s6).same (Aa Jw),X1 F.fa,X1 F.fw,X1 F.fr,X1 F.fp⟩⟩;rw[List.getElem?_map,e];show some (ul.getD i .de)=_;simp[e1]
variable(jR:mg "reversed"=none)
theorem agn:aK ["table"] ["table"] (au fW):=gC
include T jR in
theorem aju(F:jh K "read_backwards" "read_backwards" fW f fd):aZ P w K mg base (AU P) true 1 f fd ["table"] lJ:=by
 refine F.f' agn Am gD
 ·obtain⟨e,as,f,n,m,rfl,_⟩:=h;rfl
 ·obtain⟨e,as,f,n,m,rfl,he,TA,hn,hm,q⟩:=h;have yN:=TA.len;refine⟨_,(A8 (Az (JF (show bx ["table"] (au fW) _ ["row"] [] []from FA) (@arZ _ _ K _ _ _ _ (by exact rfl) jR RB (by rfl) (by rfl)) (λ_ _ _ _ _=>(Af (0) (show(["row"]:List Str).Nodup by decide+kernel))) (λ_ _ _ _ _=>(aqn K i9 (by exact rfl) T.fC i9 jR Bv))))),?_⟩;refine⟨_,rfl,e,_,rfl, .of he,λD hD=>?_⟩;refine atH (xs:=EH V.ref) (λi ys σ H'=>(∃u,σ=[u])/\∃rs:List Addr,ys=rs.map V.ref/\av H H'/\H' D=some (.lst ys)/\fE H' rs HE i m/\(∀a∈rs,H a=none/\a≠D)) ⟨⟨_,rfl⟩,[],rfl,Aa hD,ae,⟨rfl,λi a h=>by simp at h⟩,λa h=>by cases h⟩ ?_ ?_ ?_
  ·rintro i ys σ H' _ ⟨_,rs,_,s1,_⟩;exact .of QX
  ·rintro i x ys σ H' hx ⟨⟨u,rfl⟩,rs,rfl,s1,pX,T1,Ms⟩;have hi:i<n:=by have:=(AM hx).1;simp at this;lia
   obtain⟨ra,h1,h2,h3⟩:=TA.at (i:=n-1-i) (by lia);have tw:x= .ref ra:=by
    rw[Km (by rw[List.length_map];lia),List.length_map,yN,h2]at hx;exact(Aw hx).symm
   subst tw;have L':=T1.len;refine rD ?_;refine⟨_,rfl,ra,_,rfl, .of (Bh h3),λl hl=>?_⟩;have abb:l≠D:=λz=>by subst z;rw[pX]at hl;cases hl
   refine⟨Bt hl pX,bb (by rw[List.length_map];lia),⟨_,rfl⟩,rs++[l],AA,(Bl (Aa hl)).eA hD,ae,⟨by simp[L'],λk a hk=>?_⟩,λa ha=>?_⟩
   ·by_cases hki:k<i
    ·rw[Bi A3]at hk;rw[aq (Ms a (B7 hk)).2];exact Bt hl (T1.row k a hk)
    ·rw[Br A3]at hk;have xP:k-rs.length=0:=by
      have:=(AM hk).1;simp at this
      lia
     rw[xP]at hk;have e1:l=a:=by simpa using hk
     have e2:k=i:=by lia
     subst e1 e2;rw[aq abb,ae,asj hi]
   ·rcases List.mem_append.mp ha with ha|ha
    ·exact Ms a ha
    ·have:a=l:=by simpa using ha
     rw[this];exact⟨JP hl,abb⟩
  ·rintro ys σ H' ⟨_,rs,rfl,s1,pX,T1,Ms⟩;rw[List.length_map,yN]at T1;exact q H' D s1 ⟨rs,pX,hD,T1,λa ha=>(Ms a ha).1⟩
variable(d_:bI P w K mg base true 1 "read_backwards" ["table"] lJ)
theorem ajq:aK ["worths","terms"] ["worths","terms"] (au iz):=gC
include T Rc c_ d_ in
theorem aus(F:jh K "starting_table" "starting_table" iz f fd):aZ P w K mg base (AU P) true 6 f fd ["worths","terms"] (mQ aQ):=by
 refine F.f' ajq Am gD
 ·obtain⟨w,t,c,as,f,n,m,rfl,_⟩:=h;rfl
 ·obtain⟨w,t,c,as,f1,n,m,rfl,hw,TA,TF,hn,hm,q⟩:=h;refine⟨_,(A8 (Az (BK d_ (AB (Df (Qp c_ (Ao (N6 d_) (AB Ba)))))))),?_⟩;refine⟨_,rfl,w,as,f1,n,m,rfl,hw,TA,hn,hm,λH1 r s1 Tb1=>?_⟩;obtain⟨rs,hr,r6,TR,_⟩:=Tb1;refine⟨_,rfl,λx dx hx xK ed=>?_⟩;have s5:av H1 (hV x):=(Aa xK).eA hx;refine⟨x,dx,r,t,c,rs,jV f1,n,m,rfl,ae,by rw[aq ed];exact ae,CV hr,TR.same s5,(GX s1).keep s5,hn,hm,λH6 e b sb Mt SU _=>?_⟩;obtain⟨es,he,IY,TE,_⟩:=SU;have sN:av H H6:=Bl (M4 hx xK);refine⟨rfl,x,az,dx,_,_,rfl,Mt,Rc.cl,Rc.i6,QD c.out,e,es,_,n,m,rfl,he,TE,hn,hm,λH7 r7 s7 Tb7=>?_⟩;obtain⟨zs,h1,h2,h3,h4⟩:=Tb7;exact q H7 r7 (sN.trans s7) ⟨zs,h1,SQ h2,h3,λa ha=>SQ (h4 a ha)⟩
theorem afT:aK ["worth","ending","starting"] ["worth","ending","starting"] (au i8):=gC
include T in
theorem aqF(F:jh K "through_worth" "through_worth" i8 f fd):aZ P w K mg base (AU P) true 1 f fd ["worth","ending","starting"] uM:=by
 refine F.f' afT Am gD
 ·obtain⟨w,e,s,rfl,_⟩:=h;rfl
 ·obtain⟨w,e,s,rfl,ok,q⟩:=h;refine⟨_,asB,?_⟩;refine⟨_,rfl,_,rfl,?_⟩;cases w with
  |none=>
   refine j1 ?_;exact q
  |some w=>
   obtain⟨h1,h2⟩:=ok rfl;obtain⟨e,rfl⟩:=Hj h1;obtain⟨s,rfl⟩:=Hj h2;refine a9 (λhh=>absurd hh (by simp[bu])) (λ_=>?_);exact⟨_,rfl,_,rfl,_,_,rfl,rfl,_,rfl,_,_,rfl,rfl,q⟩
theorem apg:aK ["first","second","terms","taken"] ["first","second","terms","taken"] (au bD):=gC
include T Rc c_ bW in
theorem aoZ(F:ip K "best_ending" "best_ending" bD f fd):aZ P w K mg base (AU P) true 6 f fd ["first","second","terms","taken"] (Kh n9):=by
 refine F.f' apg Am gD
 ·obtain⟨f,g,t,v,c,shut,rfl,_⟩:=h;rfl
 ·obtain⟨f1,g,t,v,c,shut,rfl,hf,hg,TF,TV,Ny,Jq,Lk,q⟩:=h;refine⟨_,(A8 (Az (Df (Qp c_ (Fv (zF bW)))))),?_⟩;refine⟨_,rfl,_,rfl,_,rfl,_,rfl,f1,g,t,v,c,shut,rfl,hf,hg,TF,TV,Ny,Jq,Lk,λH1 w as s1 hw hw0 TA _ _ hn=>?_⟩;refine⟨_,rfl,λx dx hx xK ed=>?_⟩;have s5:av H1 (hV x):=(Aa xK).eA hx;have hw5:=CV hw;refine⟨x,dx,w,t,c,as,Fy c,c.xs.length,c.ys.length,rfl,ae,by rw[aq ed];exact ae,hw5,OA s5,(GX s1).keep s5,Jq,Lk,λH6 e b sb Mt SU _=>?_⟩;obtain⟨es,he,IY,TE,OS⟩:=SU;have sN:av H1 H6:=M4 hx xK;refine⟨rfl,x,az,dx,_,_,rfl,Mt,Rc.cl,Rc.i6,QD c.out,?_⟩;have fr:∀a,upd (sj H1) x (.ins az dx []) a=none->H a=none:=λa ha=>JP (s5.free ha)
  exact q H6 e (Bl sN) ⟨es,he,fr e IY,TE,λa ha=>fr a (OS a ha)⟩
variable(fX:bI P w K mg base true 6 "starting_table" ["worths","terms"] (mQ aQ))
variable(gj:bI P w K mg base true 1 "through_worth" ["worth","ending","starting"] uM)
theorem cS:aK ["first","second","terms","taken","worths","ending","starting","table","i","row"] ["first","second","terms","taken"] (au bg):=gC
include T Rc c_ bW fX gj in
theorem akc(F:ip K "best_through" "best_through" bg f fd):aZ P w K mg base (AU P) true 7 f fd ["first","second","terms","taken"] (Kh me):=by
 refine F.f' cS Am gD
 ·obtain⟨f,g,t,v,c,shut,rfl,_⟩:=h;rfl
 ·obtain⟨f1,g,t,v,c,shut,rfl,hf,hg,TF,TV,Ny,Jq,Lk,q⟩:=h;refine⟨_,(AQ (AZ (4) cS.nd (zF bW)) (AQ (JR (5) cS.nd (Df (Qp c_ (Fv BP)))) (AQ (JR (6) cS.nd (BK fX (Fv BP))) (AQ (FX (7) cS.nd) (AQ (DB (Τ K) (Ey (Bs (kb (8) cS.nd) (DJ (Af (9) cS.nd)))) (A8 (BR (E6 EM (AB (JF (show bx ["first","second","terms","taken","worths","ending","starting","table","i","row"] (au bg) _ ["j","worth"] [5,8,6] ["ending","i","starting"]from FA) (wZ K (AB Kv)) (λ_ _ _ _ _=>(Ey (Bs (Af (0) (show(["j","worth","ending","i","starting"]:List Str).Nodup by decide+kernel)) (DJ (Af (1) (show(["j","worth","ending","i","starting"]:List Str).Nodup by decide+kernel)))))) (λ_ _ _ _ _=>(BK gj (HR (Ao (Bd (QM Bg) (pv 0)) (AB (Bd (Bd BP (pv 3)) (pv 0))))))))))))) (A8 (Az EM))))))),?_⟩;refine⟨λσ H1=>∃w as,σ=[sR f1,sR g,sR t,some v,sR w,none,none,none,none,none]/\av H H1/\H1 w=some (.lst Dt)/\fE H1 as (Fy c) c.xs.length c.ys.length,?_,?_⟩
  ·exact⟨_,rfl,_,rfl,_,rfl,_,rfl,f1,g,t,v,c,shut,rfl,hf,hg,TF,TV,Ny,Jq,Lk,λH1 w as s1 hw _ TA _ _ _=>⟨w,as,rfl,s1,hw,TA⟩⟩
  rintro σ H1 ⟨w,as,rfl,s1,hw,TA⟩;refine⟨λσ H2=>∃e es,σ=[sR f1,sR g,sR t,some v,sR w,sR e,none,none,none,none]/\av H1 H2/\H2 e=some (.lst RL)/\fE H2 es (n9 c shut) c.xs.length c.ys.length,?_,?_⟩
  ·refine⟨_,rfl,_,rfl,λx dx hx xK ed=>?_⟩;have s5:av H1 (hV x):=(Aa xK).eA hx;refine⟨x,dx,w,t,c,as,Fy c,c.xs.length,c.ys.length,rfl,ae,by rw[aq ed];exact ae,CV hw,OA s5,(GX s1).keep s5,Jq,Lk,λH6 e b sb Mt SU _=>?_⟩;obtain⟨es,he,_,TE,_⟩:=SU;exact⟨rfl,x,az,dx,_,_,rfl,Mt,Rc.cl,Rc.i6,QD c.out,e,es,rfl,M4 hx xK,he,TE⟩
  rintro σ H2 ⟨e,es,rfl,s2,he,TE⟩;refine⟨λσ H3=>∃r rs,σ=[sR f1,sR g,sR t,some v,sR w,sR e,sR r,none,none,none]/\av H2 H3/\H3 r=some (.lst (rs.map V.ref))/\fE H3 rs (yH c shut) c.xs.length c.ys.length,?_,?_⟩
  ·exact⟨_,rfl,_,rfl,w,t,c,as,Fy c,c.xs.length,c.ys.length,rfl,BY hw,OA s2,(GX s1).keep s2,Jq,Lk,λH3 r s3 ⟨rs,h1,_,h3,_⟩=>⟨r,rs,rfl,s3,h1,h3⟩⟩
  rintro σ H3 ⟨r,rs,rfl,s3,wu,TS⟩;have hw:=Dd (BY hw);have he:=Dd he;have TA:=(OA s2).same s3;have TE:=TE.same s3;have sN:=Bl Vi;have yN:=TA.len;refine⟨λσ H4=>∃D,σ=[sR f1,sR g,sR t,some v,sR w,sR e,sR r,sR D,none,none]/\av H3 H4/\H3 D=none/\H4 D=some (.lst []),?_,?_⟩
  ·exact⟨aE A9,λD hD=>⟨D,rfl,Aa hD,hD,ae⟩⟩
  rintro σ H4 ⟨D,rfl,s4,Ld,Jx⟩;refine⟨λσ H5=>(∃u1 u2,σ=[sR f1,sR g,sR t,some v,sR w,sR e,sR r,sR D,u1,u2])/\av H3 H5/\∃zs:List Addr,H5 D=some (.lst (FQ V.ref))/\fE H5 zs (me c shut) c.xs.length c.ys.length/\∀a∈zs,H3 a=none,?_,?_⟩
  ·refine⟨_,rfl,w,rfl,⟨_, .of (Cu hw)⟩,?_⟩;refine uG (xs:=EH V.ref) (λi σ H'=>(∃u1 u2,σ=[sR f1,sR g,sR t,some v,sR w,sR e,sR r,sR D,u1,u2])/\av H3 H'/\∃zs:List Addr,H' D=some (.lst (FQ V.ref))/\fE H' zs (me c shut) i c.ys.length/\∀a∈zs,H3 a=none/\a≠D) ?_ ?_ ?_ ?_
   ·exact⟨⟨_,_,rfl⟩,s4,[],Jx,⟨rfl,λi a h=>by simp at h⟩,λa h=>by cases h⟩
   ·rintro i σ H' _ ⟨_,s5,_⟩;exact .of (CV hw)
   ·rintro i x T' σ H' hx ⟨⟨u1,u2,rfl⟩,s5,zs,A_,TZ,hn⟩ hT;have hi:i<c.xs.length:=by have:=(AM hx).1;rw[List.length_map]at this;lia
    obtain⟨ra,h1,h2,h3⟩:=TA.at hi;rw[hx]at h2;cases h2;obtain⟨ea,_,h5,h6⟩:=TE.at hi;obtain⟨sa,_,h8,h9⟩:=TS.at hi;have s6:av H3 (NA T' (.tup [.int i, .ref ra])):=HY qJ;have Jw:=Fq (o:= .tup [.int i, .ref ra]) hT A_;have Xk:=TZ.same (Ew (o:= .tup [.int i, .ref ra]) hT);refine⟨T',_,rfl, .of ae,rfl,_,_,rfl,_,_,rfl,rfl,?_⟩;generalize upd H' T' (.tup [.int i, .ref ra])=H6 at s6 Jw Xk;clear TZ A_ s5 hT;refine⟨_,rfl, .inl ⟨rfl,_, .of Jw⟩,?_⟩;have OT:=EW h3;refine⟨_,rfl,ra,rfl,⟨_, .of OT⟩,λL hL=>?_⟩;have aal:L≠D:=Ay (aG Jw hL);have hzl:=Xk.len;refine rL (xs:=Kz (Ly i)) (λj ys bK H7=>(∃w1 w2,bK=[w1,w2,sR e,sI i,sR r])/\ys=cO j (me c shut i)/\H7 L=some (.lst ys)/\av H6 H7) ⟨⟨_,_,rfl⟩,rfl,ae,Aa hL⟩ ?_ ?_ ?_
    ·rintro j ys bK H7 _ ⟨_,_,_,s7⟩;exact .of (GK OT)
    ·rintro j y T2 ys bK H7 hy ⟨⟨w1,w2,rfl⟩,rfl,UP,s7⟩ Ml;have hj:j<c.ys.length:=by have:=(AM hy).1;rw[bM]at this;exact this
     rw[bN hj]at hy;cases hy;have s8:av H6 (DT H7 T2 (.tup [.int j,bu Wb])):=Kr ZQ;have aaZ:=Fq (o:= .tup [.int j,bu Wb]) Ml UP;refine⟨T2,_,rfl, .of ae,rfl,_,_,rfl,_,_,rfl,rfl,?_⟩;generalize upd H7 T2 (.tup [.int j,bu Wb])=H8 at s8 aaZ;have s9:=LF s8;refine qg ?_;refine⟨_,rfl,_,rfl,_,rfl,e,_,_,_,rfl,rfl, .of (KG he),ar h5,_,rfl,ea,_,_,_,rfl,rfl, .of (KG h6),ar (bN hj),?_⟩;refine⟨_,rfl,_,rfl,r,_,_,_,rfl,rfl, .of (KG wu),ar h8,_,rfl,sa,_,_,_,rfl,rfl, .of (KG h9),ar (bN hj),?_⟩;refine⟨aku j,n9 c shut i j,yH c shut i j,rfl,λz=>?_,?_⟩
     ·have hE:=gz K5 c.out c.into i j;have hS:=qo (Cm c shut) c.out c.into hi hj;have one:Wy eD [((i:Int),(j:Int))]:= .one (by rw[gy];exact z);constructor
      ·cases e1:n9 c shut i j with
       |none=>
        rw[show dh K5 c.out c.into i j=none from e1]at hE;exact WV VS
       |some E=>rfl
      ·cases e1:yH c shut i j with
       |none=>
        rw[show Sq K5 c.xs.length c.ys.length c.out c.into i j=none from e1]at hS;exact WV (hS _)
       |some E=>rfl
     ·refine⟨aaZ,bb (by rw[bM];lia),⟨_,_,rfl⟩,?_,ae,s8.eA hL⟩;rw[nM];rfl
    ·rintro ys bK H7 ⟨_,rfl,UP,s7⟩;rw[bM]at UP;refine⟨D,_,_,rfl,rfl,GK Jw,bb (by rw[List.length_map];lia),⟨_,_,rfl⟩,(LF s7).eA Ld,zs++[L],by rw[ae];simp,⟨by simp[hzl],λk a hk=>?_⟩,λa ha=>?_⟩
     ·by_cases h:k<i
      ·rw[Bi A3]at hk;rw[aq (amD a).2];exact GK (Xk.row k a hk)
      ·rw[Br A3]at hk;have xP:k-zs.length=0:=by
        have:=(AM hk).1;simp at this
        lia
       rw[xP]at hk;have:L=a:=by simpa using hk
       subst this;rw[aq aal];have:k=i:=by lia
       rw[this];exact UP
     ·rcases List.mem_append.mp ha with ha|ha
      ·exact hn a ha
      ·have:a=L:=by simpa using ha
       rw[this];exact⟨s6.free hL,aal⟩
   ·rintro σ H' ⟨⟨u1,u2,rfl⟩,s5,zs,A_,TZ,hn⟩;rw[List.length_map,yN]at TZ;exact⟨⟨_,_,rfl⟩,s5,zs,A_,TZ,λa ha=>(hn a ha).1⟩
  rintro σ H5 ⟨⟨u1,u2,rfl⟩,s5,zs,A_,TZ,hn⟩;exact⟨_,rfl,q H5 D (sN.trans s5) ⟨zs,A_,SQ Ld,TZ,λa ha=>SQ (hn a ha)⟩⟩
theorem afL:aK ["_law_script","_law_k"] ["_law_script","_law_k"] (au rZ):=gC
include T in
theorem ajl(F:jh K "_law_at" "_law_at" rZ f fd):aZ P w K mg base (AU P) true 1 f fd ["_law_script","_law_k"] (Hk K):=by
 refine F.f' afL Am gD
 ·obtain⟨a,ns,k,rfl,_⟩:=h;rfl
 ·obtain⟨a,ns,k,rfl,hS,h0,q⟩:=h;refine⟨_,(AS (Bp (Fg Ba (C9 RB)) (A8 (Az (Fx Ba)))) (A8 (Az ai))),?_⟩;refine⟨_,rfl,_,rfl,a,_,rfl, .inl hS,_,_,rfl,rfl,_,rfl,?_⟩;refine a9 KY (λh=>?_)
  ·have h:k<((EG V.int).length:Int):=by simpa using h
   rw[List.length_map]at h;exact⟨_,rfl,_,rfl,a,_,k,_,rfl,rfl,hS,ata h0 h,q⟩
  ·have h:¬k<((EG V.int).length:Int):=by simpa using h
   rw[List.length_map]at h;rw[cell_out h0 h]at q;exact q
theorem apv:aK ["_law_found"] ["_law_found"] (au lR):=gC
include T in
theorem aej(F:jh K "_law_whole" "_law_whole" lR f fd):aZ P w K mg base (AU P) true 1 f fd ["_law_found"] uD:=by
 refine F.f' apv Am gD
 ·obtain⟨i,rfl,_⟩:=h;rfl
 ·obtain⟨i,rfl,q⟩:=h;refine⟨_,(A8 (Az (Z5 (NH (Ff (AB (qz (.ty "int") T.acv PyProof.Rows.Boot.«int»)))) (Y2 (@alu _ _ _ _ (NH (Ff (AB (qz (.ty "bool") T.agR PyProof.Rows.Boot.«bool»))))))))),?_⟩;refine⟨_,rfl,_,_,_,true,_,rfl,rfl, .int i,rfl,_,rfl,?_⟩;refine j1 ?_;exact⟨_,rfl,_,_,_,false,_,rfl,rfl, .int i,by kernel_rfl,_,rfl,q⟩
theorem bO:aK ["_law_cell","_law_other","_law_many","_law_letters","_law_stem","_law_rest","_law_k","_law_size","_law_found","_law_spot","_law_sign"] ["_law_cell","_law_other","_law_many"] (au mV):=gC
include T in
theorem amT(F:jh K "_law_bank" "_law_bank" mV f fd):aZ P w K mg base (AU P) true 1 f fd ["_law_cell","_law_other","_law_many"] yv:=by
 refine F.f' bO Am gD
 ·obtain⟨cell,other,many,rfl,_⟩:=h;rfl
 ·obtain⟨cell,other,many,rfl,UQ,hm,q⟩:=h;have l26:=asi;have Y':(0:Int)<26:=AN;have Za:(0:Int)<12:=AN;refine⟨_,(AS (AZ (3) bO.nd eI) (AS (AZ (4) bO.nd eI) (AS (AZ (5) bO.nd (IH Bv)) (AS (Λ (QG (AB ai)) (AS (AZ (4) bO.nd (Cy oR BP (Ν (HZ DK)))) (A8 (AZ (5) bO.nd (IH DK))))) (AS (AZ (7) bO.nd (CY ai (HZ (IH Bv)))) (AS (FX (8) bO.nd) (AS (Λ (QG mq) (A8 (iS (Hu (HZ Bv) ai) (A8 (BR (E6 G6 (AB (Ve B8 BP ya (Qe (CY ai (HZ (CY EM (pv 6)))))))))) (AS (AZ (9) bO.nd (Cy cn Ba (pv 7))) (AS (AZ (10) bO.nd (Ν (HZ (CY (IH Ba) (pv 6))))) (A8 (BR (E6 G6 (AB (Cy oR (Cy oR (Ve B8 BP ya (Qe Kv)) (pv 10)) (Ve B8 BP (Qe (GL Kv)) (Qe EM)))))))))))) (A8 (Az G6))))))))),?_⟩;refine⟨_,rfl,_,_,rfl,rfl,⟨AN,AN⟩,?_⟩;refine⟨12,rfl,AN,AN,?_⟩;refine gG (λi σ H'=>H'=H/\∃(cb:Str)(rest:Int)(kv:Option V),cb.length=i/\lows cb/\σ=[sI cell,sI other,sI many,sS Ru,sS cb,sI rest,kv,none,none,none,none]) ⟨rfl,_,_,_,(by decide+kernel),(show(D7 "").cps.toList.all low=true by decide+kernel),rfl⟩ ?_ ?_
  ·rintro i σ H' hi ⟨rfl,cb,rest,kv,hl,O3,rfl⟩;have hi:i<12:=hi;refine⟨_,rfl,_,rfl,_,rfl,_,_,rfl,rfl,Y',_,_,_,rfl,rfl,aE A3,Hr,_,_,rfl,rfl,aE (show cb.length+1<=100000 by lia),?_⟩;refine⟨_,rfl,_,_,rfl,rfl,⟨AN,AN⟩,rfl,_,_,_,?_,?_,rfl⟩
   ·rw[len_app,hl];rfl
   ·have h1:cb.cps.toList.all low=true:=O3;have h2:=DN rest;unfold lows;rw[qi,List.all_append,h1];simp[h2]
  ·rintro σ H' ⟨rfl,cb,rest,kv,hl,O3,rfl⟩;have hl:cb.length=12:=hl;refine⟨_,rfl,_,_,rfl,rfl,⟨AN,AN⟩,_,_,rfl,rfl,Za,_,_,rfl,rfl,?_⟩;have z0:1<=1+cell/2%12/\1+cell/2%12<=12:=by lia
   refine⟨aE A9,λD hD=>?_⟩;refine⟨_,rfl,many,rfl,by lia,by lia,?_⟩;refine gG (λi σ H2=>(∃u v w,σ=[sI cell,sI other,sI many,sS Ru,sS cb,sI rest,u,sI (1+cell/2%12),sR D,v,w])/\H2 D=some (.lst (((B5 i).map Wt).map V.str))/\av H' H2) ⟨⟨_,_,_,rfl⟩,ae,Aa hD⟩ ?_ ?_
   ·rintro i σ H2 hi ⟨⟨u,v,w,rfl⟩,m6,s2⟩;have hi:i<12:=by lia
    have nx:∀z,z=kR cb cell other i->(B5 i).map (λk=>V.str (Η k))++[V.str z]=((B5 (i+1)).map Wt).map V.str:=λz e=>by
     rw[List.range_succ,e];simp
    have iO:(((B5 i).map Wt).map V.str).length<sizeLine:=bb (by simp;lia);refine⟨_,rfl,_,_,rfl,rfl,(show(0:Int)<2 by decide),rfl,_,rfl,?_⟩;refine a9 KY (λh=>?_)
    ·have h:cell%2=1:=by simpa using h
     refine⟨_,rfl, .inl ⟨rfl,_, .of m6⟩,_,rfl,_,rfl,_,rfl,_,_,rfl,rfl,_,_,rfl,rfl,Za,_,_,rfl,rfl,_,rfl,cb,rfl,aE A3,D,_,_,rfl,rfl,m6,iO,⟨_,_,_,rfl⟩,?_,s2.eA hD⟩;rw[ae];have:=nx (Y7 cb (some (1+(1+cell/2%12+(0+(i:Int)))%12))) (by simp[kR,h]);rw[<-this];simp
    ·have h:¬cell%2=1:=by simpa using h
     have z1:0<=other%(1+cell/2%12)/\other%(1+cell/2%12)<1+cell/2%12:=⟨Hg A3,GY A3⟩
     have b1:=xG cb none (some (other%(1+cell/2%12)));have b2:=xG cb (some (other%(1+cell/2%12)+1)) (some (1+cell/2%12));refine⟨_,rfl,_,rfl,_,_,rfl,rfl,(show(0:Int)<1+cell/2%12 by lia),?_⟩;refine⟨_,rfl,_,rfl,_,_,rfl,rfl,⟨AN,AN⟩,_,rfl,_,_,rfl,rfl,_,_,rfl,rfl,Y',_,_,_,rfl,rfl,aE A3,Hr,?_⟩;refine⟨_,rfl, .inl ⟨rfl,_, .of m6⟩,_,rfl,_,rfl,_,rfl,cb,rfl,aE A3,_,rfl,_,_,rfl,rfl,aE (show(Txt.slice cb none (some (other%(1+cell/2%12)))).length+1<=100000 by lia),_,rfl,_,rfl,_,_,rfl,rfl,_,rfl,_,rfl,_,rfl,cb,rfl,aE A3,_,_,rfl,rfl,?_,D,_,_,rfl,rfl,m6,iO,⟨_,_,_,rfl⟩,?_,s2.eA hD⟩
     ·rw[len_app];exact aE (show(Txt.slice cb none (some (other%(1+cell/2%12)))).length+1+_<=100000 by lia)
     rw[ae];have:=nx (Txt.slice cb none (some (other%(1+cell/2%12)))++⟨#[97+((other/12+(0+(i:Int)))%26).toNat]⟩++Txt.slice cb (some (other%(1+cell/2%12)+1)) (some (1+cell/2%12))) (by simp[kR,h]);rw[<-this];simp
   ·rintro σ H2 ⟨⟨u,v,w,rfl⟩,m6,s2⟩;refine⟨_,rfl,q H2 D _ s2 hD m6 A9 ?_ (asH hl cell other A3)⟩;intro z hz;obtain⟨k,_,rfl⟩:=E4 hz;exact awm hl O3 cell other k
variable(bA:bI P w K mg base true 1 "_law_at" ["_law_script","_law_k"] (Hk K))
theorem g8:aK ["_law_script","_law_cell","_law_spot","_law_many","_law_bank_here","_law_book_here","_law_rest","_law_k"] ["_law_script","_law_cell","_law_spot","_law_many","_law_bank_here"] (au mW):=gC
include T bA in
theorem apq(F:jh K "_law_book" "_law_book" mW f fd):aZ P w K mg base (AU P) true 2 f fd ["_law_script","_law_cell","_law_spot","_law_many","_law_bank_here"] (yy K):=by
 refine F.f' g8 Am gD
 ·obtain⟨a,b,ns,zs,c,p,m,rfl,_⟩:=h;rfl
 ·obtain⟨a,b,ns,zs,c,p,m,rfl,hS,hb,⟨hz1,Po⟩,hp0,UQ,Gf,q⟩:=h;refine⟨_,(AS (FX (5) g8.nd) (AS (AZ (6) g8.nd Ba) (AS (ρ (Af (7) g8.nd) (AS (BR (E6 DK (AB (Bd BP (Cy cn (CY (CY Ca (pv 7)) (BK bA (Ff (AB (ZE EM))))) (C9 Ot)))))) (A8 (AZ (6) g8.nd (Cy eK Ca (C9 Ot)))))) (A8 (Az DK))))),?_⟩;refine⟨aE A9,λl hl=>?_⟩;refine⟨_,rfl,?_⟩;refine⟨_,rfl,m,rfl,by lia,by lia,?_⟩;refine gG (λi σ H'=>(∃r u,σ=[sR a,sI c,sI p,sI m,sR b,sR l,sI r,u])/\av H H'/\∃ws:List Str,H' l=some (.lst KN)/\ws.length=i/\∀w∈ws,w∈zs) ⟨⟨_,_,rfl⟩,Aa hl,[],ae,rfl,λw hw=>by cases hw⟩ ?_ ?_
  ·rintro i σ H' hi ⟨⟨r,u,rfl⟩,s1,ws,mh,tO,O4⟩;have hi:i<m.toNat:=hi;have kI:=Bh hb;have z0:0<=(r+(0+(i:Int))+cell ns (p+(0+(i:Int))))%(zs.length:Int):=Hg A3;have z1:(r+(0+(i:Int))+cell ns (p+(0+(i:Int))))%(zs.length:Int)<(zs.length:Int):=GY A3;obtain⟨w,hw,zX⟩:=B_ zs z0 z1;have el:(FQ V.str).length=zs.length:=List.length_map ..;refine⟨_,rfl, .inl ⟨rfl,_, .of mh⟩,_,rfl,_,rfl,_,rfl,_,_,rfl,rfl,_,rfl,_,rfl,_,rfl,_,_,rfl,rfl,a,ns,_,rfl,s1.seq hS,by lia,_,_,rfl,rfl,_,rfl,b,_,rfl, .inl (.of kI),_,_,rfl,rfl,(by rw[el];show(0:Int)<_;lia),b,_,_,_,rfl,rfl, .of kI,(by rw[el];exact zX),l,_,_,rfl,rfl,mh,bb (by rw[List.length_map];lia),?_⟩;have Lc:b≠l:=aG hb hl;have yT:upd H' l (.lst (ws.map V.str++[.str w])) b=some (.lst GA):=by rw[aq Lc];exact kI
   refine⟨_,rfl,_,rfl,b,_,rfl, .inl (.of yT),_,_,rfl,rfl,⟨by rw[el];lia,by rw[el];lia⟩,⟨_,_,rfl⟩,MF hl,ws++[w],?_,by simp[tO],?_⟩
   ·rw[ae];simp
   ·intro x hx;rcases List.mem_append.mp hx with hx|hx
    ·exact O4 x hx
    ·have:x=w:=by simpa using hx
     rw[this];exact hw
  ·rintro σ H' ⟨⟨r,u,rfl⟩,s1,ws,mh,tO,O4⟩;exact⟨_,rfl,zx l⟩
theorem cD:aK ["_law_script","_law_cell","_law_spot","_law_many","_law_first","_law_bank_here","_law_book_here","_law_rest","_law_place","_law_k","_law_pick"] ["_law_script","_law_cell","_law_spot","_law_many","_law_first","_law_bank_here"] (au jm):=gC
include T bA in
theorem aiA(F:jh K "_law_quote" "_law_quote" jm f fd):aZ P w K mg base (AU P) true 2 f fd ["_law_script","_law_cell","_law_spot","_law_many","_law_first","_law_bank_here"] (uJ K):=by
 refine F.f' cD Am gD
 ·obtain⟨a,b,x,ns,zs,O5,c,p,m,rfl,_⟩:=h;rfl
 ·obtain⟨a,b,x,ns,zs,O5,c,p,m,rfl,hS,hb,hx,⟨hz1,Po⟩,z9,Xl,hp0,UQ,Gf,q⟩:=h;have hu:=hr.units;have Jv:(Bc (Dj "_law_quote" (au jm))).units<cLine:=by lia
  have c8:(0:Int)<8:=AN;refine⟨_,(AS (FX (6) cD.nd) (AS (AZ (7) cD.nd Ba) (AS (AZ (8) cD.nd ai) (AS (ρ (Af (9) cD.nd) (AS (AZ (10) cD.nd (CY EM (BK bA (Ff (AB (ZE Kv)))))) (AS (AZ (7) cD.nd (Cy eK EM (Cy lB ai avV))) (A8 (iS (CO (Ht (Fg zL ai) (J8 (Cb (aaV K Jv) (pv 4) (Dr af))))) (AS (AZ (8) cD.nd (CY G6 (W9 (AB (Fs iP zL ai))))) (AS (BR (E6 Ca (AB (Bd BP (Cy cn G6 (C9 Ot)))))) (A8 (AZ (8) cD.nd (GL G6))))) (A8 (BR (E6 Ca (AB (Bd DK (Cy cn (IH yp) (C9 aww)))))))))))) (A8 (Az Ca)))))),?_⟩;refine⟨aE A9,λl hl=>?_⟩;refine⟨_,rfl,?_⟩;refine⟨_,rfl,m,rfl,by lia,by lia,?_⟩;refine gG (λi σ H'=>(∃(r pl:Int)(u1 u2:Option V),σ=[sR a,sI c,sI p,sI m,sR x,sR b,sR l,sI r,sI pl,u1,u2])/\av H H'/\∃ws:List Str,H' l=some (.lst KN)/\ws.length=i/\∀w∈ws,w∈zs) ⟨⟨_,_,_,_,rfl⟩,Aa hl,[],ae,rfl,λw hw=>by cases hw⟩ ?_ ?_
  ·rintro i σ H' hi ⟨⟨r,pl,u1,u2,rfl⟩,s1,ws,mh,tO,O4⟩;have hi:i<m.toNat:=hi;have kI:=Bh hb;have mB:=Bh hx;have el:(FQ V.str).length=zs.length:=List.length_map ..;have Zb:(O5.map V.str).length=O5.length:=List.length_map ..;have iO:(tX V.str).length<sizeLine:=bb (by rw[List.length_map];lia);refine⟨_,rfl,_,rfl,_,rfl,_,rfl,_,_,rfl,rfl,a,ns,_,rfl,s1.seq hS,by lia,_,_,rfl,rfl,?_⟩;refine⟨_,rfl,_,rfl,b,_,rfl, .inl (.of kI),_,_,rfl,rfl, .inl EN,_,_,rfl,rfl,⟨by rw[el];lia,by rw[el];lia⟩,?_⟩;have fin:∀H3 (w:Str),av H H3->H3 l=some (.lst KN)->w∈zs->av H (DT H3 l (.lst (ws.map V.str++[.str w])))/\∃Xm:List Str,upd H3 l (.lst (ws.map V.str++[.str w])) l=some (.lst (Xm.map V.str))/\Xm.length=i+1/\∀w∈Xm,w∈zs:=λH3 w s3 h3 hw=>by
    refine⟨s3.eA hl,ws++[w],by rw[ae];simp,by simp[tO],λx hx=>?_⟩;rcases List.mem_append.mp hx with hx|hx
    ·exact O4 x hx
    ·have:x=w:=by simpa using hx
     rw[this];exact hw
   have other:∀H3,av H H3->H3 l=some (.lst KN)->H3 b=some (.lst GA)->∃w,w∈zs/\uc GA ((r+cell ns (p+(0+(i:Int))))/8%((FQ V.str).length:Int))=some (.str w):=λH3 _ _ _=>by
    rw[el];exact B_ zs (Hg A3) (GY A3)
   refine⟨_,rfl,_,_,rfl,rfl,c8,_,_,rfl,rfl,_,rfl,?_⟩;refine a9 Fw (λh1=>?_)
   ·refine⟨_,rfl,aE A9,λpn P7=>⟨x,pn,_,rfl,rfl, .of (Bt P7 mB), .of ae,_,rfl,?_⟩⟩;have s2:av H (Gr H' pn):=Bl (Aa P7);have qb:=Fq (o:= .lst []) P7 mh;refine a9 He (λh2=>?_)
    ·have ed:O5≠[]:=by simpa using h2
     have aoT:0<O5.length:=Y3 ed;obtain⟨w,hw,zX⟩:=B_ O5 (i:=(pl+(if decide ((r+cell ns (p+(0+(i:Int))))%8=4)=true then 1 else 0))%((O5.length:Nat):Int)) (Hg A3) (GY A3);obtain⟨a1,a2⟩:=fin _ w s2 qb (Xl w hw);refine⟨_,rfl,_,rfl,_,_,rfl,rfl,c8,rfl, .inr ⟨_,rfl,_,_,rfl,rfl,?_⟩⟩;refine⟨_,rfl, .inl ⟨rfl,_, .of qb⟩,_,rfl,_,rfl,_,rfl,x,_,rfl, .inl (.of (BY hx)),_,_,rfl,rfl,(by rw[Zb];show(0:Int)<_;lia),x,_,_,_,rfl,rfl, .of (BY hx),by rw[Zb];simpa[beq_iff_eq,xB]using zX,l,_,_,rfl,rfl,qb,iO,?_⟩;exact⟨_,rfl,_,_,rfl,rfl,⟨_,_,_,_,rfl⟩,a1,a2⟩
    ·obtain⟨w,hw,zX⟩:=other _ s2 qb Zo;obtain⟨a1,a2⟩:=fin _ w s2 qb hw;refine⟨_,rfl, .inl ⟨rfl,_, .of qb⟩,_,rfl,_,rfl,_,_,rfl,rfl,⟨AN,AN⟩,_,rfl,b,_,rfl, .inl (.of Zo),_,_,rfl,rfl,(by rw[el];show(0:Int)<_;lia),b,_,_,_,rfl,rfl, .of Zo,zX,l,_,_,rfl,rfl,qb,iO,⟨_,_,_,_,rfl⟩,a1,a2⟩
   ·refine gu ?_;obtain⟨w,hw,zX⟩:=other _ s1 mh kI;obtain⟨a1,a2⟩:=fin _ w s1 mh hw;refine⟨_,rfl, .inl ⟨rfl,_, .of mh⟩,_,rfl,_,rfl,_,_,rfl,rfl,⟨AN,AN⟩,_,rfl,b,_,rfl, .inl (.of kI),_,_,rfl,rfl,(by rw[el];show(0:Int)<_;lia),b,_,_,_,rfl,rfl, .of kI,zX,l,_,_,rfl,rfl,mh,iO,⟨_,_,_,_,rfl⟩,a1,a2⟩
  ·rintro σ H' ⟨⟨r,pl,u1,u2,rfl⟩,s1,ws,mh,tO,O4⟩;exact⟨_,rfl,zx l⟩
theorem e8:aK ["_law_script","_law_spot","_law_pick","_law_same","_law_most"] ["_law_script","_law_spot"] (au gW):=gC
include T bA in
theorem afA(F:jh K "_law_numbers" "_law_numbers" gW f fd):aZ P w K mg base (AU P) true 2 f fd ["_law_script","_law_spot"] (oV K):=by
 refine F.f' e8 Am gD
 ·obtain⟨a,ns,k,rfl,_⟩:=h;rfl
 ·obtain⟨a,ns,k,rfl,hS,h0,q⟩:=h;have c2:(0:Int)<2:=AN;have c4:(0:Int)<4:=AN;have c6:(0:Int)<6:=AN;have cM:(0:Int)<1000000:=AN;have Zc:∀i:Int,M_ i 4:=λi=>⟨AN,AN⟩
  have cd8:∀i:Int,M_ i 8:=λi=>⟨AN,AN⟩
  refine⟨_,(AS (VA (2) e8.nd (show bx ["_law_script","_law_spot","_law_pick","_law_same","_law_most"] (au gW) _ ["_law_k"] [0,1] ["_law_script","_law_spot"]from FA) (QG (AB ai)) (λ_ _ _ _ _=>(Af (0) (show(["_law_k","_law_script","_law_spot"]:List Str).Nodup by decide+kernel))) (λ_ _ _ _ _=>(BK bA (HR (AB (ZE Bv)))))) (AS (Bp (Fg RP ai) (AS w8 (A8 (Az (Dr (Oc (Ao RP (Ao RP (AB (CY ai (afv vG))))))))))) (AS w8 (AS (AZ (4) e8.nd (Bd (Dr (qV (ZK (Ao ai (AB vG))))) (HZ (y8 eK)))) (A8 (Az (Dr (Oc (Ao RP (Ao RP (AB (CY ai (afv BP))))))))))))),?_⟩;refine⟨4,rfl,AN,AN,λD hD=>?_⟩;refine avb (λi ys bK H'=>(∃u,bK=[u,sR a,sI k])/\∃is:List Int,ys=is.map V.int/\is.length=i/\H' D=some (.lst ys)/\av H H') ⟨⟨_,rfl⟩,[],rfl,rfl,ae,Aa hD⟩ ?_ ?_
  ·rintro i ys bK H' hi ⟨⟨u,rfl⟩,is,rfl,hl,hDl,s1⟩;have hi:i<4:=hi;refine rD ?_;exact⟨_,rfl,_,rfl,_,rfl,_,_,rfl,rfl,a,ns,_,rfl,s1.seq hS,by lia,hDl,bb (by rw[List.length_map];lia),⟨_,rfl⟩,is++[cell ns (k+(0+(i:Int)))],AA,by simp[hl],ae,MF hD⟩
  ·rintro ys bK H1 ⟨_,is,rfl,hl,pX,s1⟩;obtain⟨p0,p1,p2,p3,rfl⟩:=asy hl;refine⟨_,rfl,D,_,0,_,rfl,rfl, .of pX,AI (j:=0),_,_,rfl,rfl,c4,_,_,rfl,rfl,_,rfl,?_⟩;refine a9 Kb (λ_=>?_)
   ·refine⟨_,rfl,D,_,0,_,rfl,rfl, .of pX,AI (j:=0),_,_,rfl,rfl,Zc _,_,_,rfl,rfl,c6,_,_,rfl,rfl,?_⟩;have z0:1<=1+p0/4%6/\1+p0/4%6<=6:=by lia
    have z3:0<=p3%(3*(1+p0/4%6)):=Hg A3;have z4:p3%(3*(1+p0/4%6))<3*(1+p0/4%6):=GY A3;exact⟨_,rfl,_,rfl,D,_,1,_,rfl,rfl, .of pX,AI (j:=1),_,_,rfl,rfl,c4,_,rfl,D,_,2,_,rfl,rfl, .of pX,AI (j:=2),_,_,rfl,rfl,c4,_,rfl,D,_,3,_,rfl,rfl, .of pX,AI (j:=3),_,rfl,_,_,rfl,rfl, .inl EN,_,_,rfl,rfl,(show(0:Int)<3*(1+p0/4%6) by lia),_,_,rfl,rfl,aE A9,λp hp=>w9 p (Bl Of) (JP hp)⟩
   ·refine⟨_,rfl,D,_,0,_,rfl,rfl, .of pX,AI (j:=0),_,_,rfl,rfl,cd8 _,_,_,rfl,rfl,(show(0:Int)<999999 by decide),_,_,rfl,rfl,?_⟩;have z0:1<=1+p0/8%999999/\1+p0/8%999999<=999999:=by lia
    obtain⟨m,Gf,hm⟩:=int_at [if 3*(1+p0/8%999999)<999999 then 3*(1+p0/8%999999)else 999999,999999] (i:=p0/4%2) (by lia) (show p0/4%2<2 by lia);have E_:1<=m/\m<=999999:=by
     simp only[List.mem_cons,List.not_mem_nil,or_false]at Gf;rcases Gf with rfl|rfl
     ·split<;>lia
     ·lia
    refine⟨_,rfl,_,_,rfl,rfl, .inl EN,_,_,rfl,aE A9,λp hp=>?_⟩;have m6:=Fq (o:= .lst [.int (if 3*(1+p0/8%999999)<999999 then 3*(1+p0/8%999999)else 999999), .int 999999]) hp pX;refine⟨_,rfl,D,_,0,_,rfl,rfl, .of m6,AI (j:=0),_,_,rfl,rfl,Zc _,_,_,rfl,rfl,c2,p,_,_,_,rfl,rfl, .of ae,hm,?_⟩;have z3:0<=p3%m:=Hg A3;have z4:p3%m<m:=GY A3;exact⟨_,rfl,_,rfl,D,_,1,_,rfl,rfl, .of m6,AI (j:=1),_,_,rfl,rfl,cM,_,rfl,D,_,2,_,rfl,rfl, .of m6,AI (j:=2),_,_,rfl,rfl,cM,_,rfl,D,_,3,_,rfl,rfl, .of m6,AI (j:=3),_,rfl,_,_,rfl,rfl,(show(0:Int)<m by lia),_,_,rfl,rfl,aE A9,λp2 BX=>w9 p2 ((Bl Of).trans (Aa BX)) ((Bl Of).free BX)⟩
theorem dN:aK ["_law_cell","_law_bank_here","_law_same","_law_found","_law_rest","_law_x","_law_y","_law_price"] ["_law_cell","_law_bank_here","_law_same"] (au mY):=gC
include T in
theorem ael(F:jh K "_law_near" "_law_near" mY f fd):aZ P w K mg base (AU P) true 1 f fd ["_law_cell","_law_bank_here","_law_same"] yx:=by
 refine F.f' dN Am gD
 ·obtain⟨cell,same,b,zs,rfl,_⟩:=h;rfl
 ·obtain⟨cell,same,b,zs,rfl,hb,hz8,hw,hn,hs1,By,q⟩:=h;have Ri:(0:Int)<same+3:=by lia
  refine⟨_,(AS (FX (3) dN.nd) (AS (AZ (4) dN.nd Bv) (qD (Ir (Af (5) dN.nd) (A8 (Ir (Af (6) dN.nd) (A8 (Bp (Cb Ae DK (pv 6)) (AS (AZ (7) dN.nd (Cy cn (IH BP) (GL Bm))) (AQ (yf (AS (BR (E6 Bg (AB (CU (HQ (Ao Ca (AB (ZK (qV EM))))))))) (A8 (AZ (4) dN.nd (Cy eK BP (GL Bm))))) (A8 (yf (A8 (BR (E6 Bg (AB (CU (HQ (qV Ca))))))) aP))) (A8 (AZ (4) dN.nd (IH BP))))))))))))),?_⟩;refine⟨aE A9,λl hl=>?_⟩;refine⟨_,rfl,?_⟩;have hlb:b≠l:=aG hb hl;refine⟨_,rfl,b,rfl,⟨_, .of (Bt hl hb)⟩,?_⟩;refine br (xs:=FQ V.str) (λi σ H'=>(∃(rest:Int)(u1 u2 u3:Option V),σ=[sI cell,sR b,sI same,sR l,sI rest,u1,u2,u3])/\av H H'/\∃xs fs,H' l=some (.lst xs)/\eF H' xs fs/\dI zs i 0 fs) ⟨⟨_,_,_,_,rfl⟩,Aa hl,[],[],ae, .nil, .nil⟩ ?_ ?_ ?_
  ·rintro i σ H' _ ⟨_,s1,_⟩;exact .of qZ
  ·rintro i v σ H' hv ⟨⟨rest,u1,u2,u3,rfl⟩,s1,xs,fs,mh,T1,P1⟩;obtain⟨x,hx,rfl⟩:∃x,zs[i]?=some x/\v= .str x:=nH hv;have hi:i<zs.length:=(AM hx).1;refine⟨_,rfl,b,rfl,⟨_, .of qZ⟩,?_⟩;refine br (xs:=FQ V.str) (λj σ H'=>(∃(rest:Int)(u2 u3:Option V),σ=[sI cell,sR b,sI same,sR l,sI rest,sS x,u2,u3])/\av H H'/\∃xs fs,H' l=some (.lst xs)/\eF H' xs fs/\dI zs i j fs) ⟨⟨_,_,_,rfl⟩,s1,xs,fs,mh,T1,P1⟩ ?_ ?_ ?_
   ·rintro j σ H' _ ⟨_,s1,_⟩;exact .of qZ
   ·clear s1 mh T1 P1 xs fs u1 u2 u3 rest H';rintro j v σ H' hv ⟨⟨rest,u2,u3,rfl⟩,s1,xs,fs,mh,T1,P1⟩;obtain⟨y,hy,rfl⟩:∃y,zs[j]?=some y/\v= .str y:=nH hv;have GZ:xs.length<1000:=by
     have h1:=P1.Bz;have h2:i*(zs.length-1)<=8*7:=KO A3 (by lia);have h3:j<zs.length:=(AM hy).1;have h4:=T1.1
     lia
    refine⟨_,rfl,_,rfl,rfl,_,rfl,?_⟩;refine a9 KY (λh=>?_)
    rotate_left
    ·exact⟨⟨_,_,_,rfl⟩,s1,xs,fs,mh,T1,P1.skip⟩
    have ed:¬x=y:=by simpa using h
    refine⟨_,rfl,_,_,rfl,rfl,⟨AN,AN⟩,_,rfl,_,_,rfl,rfl,_,_,rfl,rfl,Ri,?_⟩;have p0:0<=rest/3%(same+3):=Hg A3;have add:∀(t:Addr)(ht:H' t=none)(pr:Int),0<=pr->pr<=999999->av H (wX l)/\∃I_ Mv,upd (agG t) l (.lst (xs++[.ref t])) l=some (.lst I_)/\eF (wX l) I_ Mv/\dI zs i (j+1) Mv:=λt ht pr h0 h1=>by
     refine⟨(Bl RK).eA hl,_,fs++[(x,y,pr)],ae,?_,P1.add hn hw hx hy ed h0 h1⟩;have T2:eF (NA t (.tup (NI (x,y,pr)))) (xs++[.ref t]) (fs++[(x,y,pr)]):=(T1.same RK).snoc ae;exact T2.cT (Q0 (Bt ht mh))
    refine⟨λσ H2=>(∃(rest:Int)(u3:Option V),σ=[sI cell,sR b,sI same,sR l,sI rest,sS x,sS y,u3])/\av H H2/\∃xs fs,H2 l=some (.lst xs)/\eF H2 xs fs/\dI zs i (j+1) fs,?_,?_⟩
    ·refine⟨_,rfl,_,_,rfl,rfl,(show(0:Int)<3 by decide),rfl,_,rfl,?_⟩;refine a9 Kb (λ_=>?_)
     ·refine⟨_,rfl, .inl ⟨rfl,_, .of mh⟩,_,rfl,_,rfl,_,rfl,_,_,rfl,aE A9,λt ht=>⟨l,xs,_,rfl,rfl,Bt ht mh,bb A3,?_⟩⟩;obtain⟨a1,a2⟩:=add t ht (if 999999<rest/3%(same+3)then 999999 else rest/3%(same+3)) (by split<;>lia) (by split<;>lia);exact⟨_,rfl,_,rfl,_,_,rfl,rfl,_,_,rfl,rfl,⟨Ri,by lia⟩,⟨_,_,rfl⟩,a1,a2⟩
     ·refine⟨_,rfl,_,_,rfl,rfl,(show(0:Int)<9 by decide),rfl,_,rfl,?_⟩;refine a9 Kb (λ_=>?_)
      ·refine⟨_,rfl, .inl ⟨rfl,_, .of mh⟩,_,rfl,_,rfl,aE A9,λt ht=>⟨l,xs,_,rfl,rfl,Bt ht mh,bb A3,?_⟩⟩;obtain⟨a1,a2⟩:=add t ht 999999 EN (AN);exact⟨⟨_,_,rfl⟩,a1,a2⟩
      ·exact⟨⟨_,_,rfl⟩,s1,xs,fs,mh,T1,P1.skip⟩
    rintro σ H2 ⟨⟨Mw,u4,rfl⟩,s2,I_,Mv,qb,T2,P2⟩;exact⟨_,rfl,_,_,rfl,rfl,⟨AN,AN⟩,⟨_,_,_,rfl⟩,s2,I_,Mv,qb,T2,P2⟩
   ·rintro σ H2 ⟨⟨Mw,u4,u5,rfl⟩,s2,I_,Mv,qb,T2,P2⟩;rw[List.length_map]at P2;exact⟨⟨_,_,_,_,rfl⟩,s2,I_,Mv,qb,T2,P2.row hi⟩
  ·rintro σ H2 ⟨⟨Mw,u4,u5,u6,rfl⟩,s2,I_,Mv,qb,T2,P2⟩;rw[List.length_map]at P2;exact⟨_,rfl,q H2 l I_ Mv s2 hl qb T2 (P2.good hz8)⟩
variable(kg:bI P w K mg base true 1 "_law_bank" ["_law_cell","_law_other","_law_many"] yv)
variable(kh:bI P w K mg base true 2 "_law_book" ["_law_script","_law_cell","_law_spot","_law_many","_law_bank_here"] (yy K))
variable(jt:bI P w K mg base true 2 "_law_quote" ["_law_script","_law_cell","_law_spot","_law_many","_law_first","_law_bank_here"] (uJ K))
variable(g9:bI P w K mg base true 2 "_law_numbers" ["_law_script","_law_spot"] (oV K))
variable(ki:bI P w K mg base true 1 "_law_near" ["_law_cell","_law_bank_here","_law_same"] yx)
theorem dO:aK ["_law_script","_law_most","_law_many","_law_bank_here","_law_one","_law_other","_law_first","_law_second","_law_numbers_here"] ["_law_script","_law_most"] (au mZ):=gC
include T bA kg kh jt g9 ki in
theorem agQ(F:jh K "_law_case" "_law_case" mZ f fd):aZ P w K mg base (AU P) true 3 f fd ["_law_script","_law_most"] (yz K):=by
 refine F.f' dO Am gD
 ·obtain⟨a,ns,most,rfl,_⟩:=h;rfl
 ·obtain⟨a,ns,most,rfl,hS,UQ,Gf,q⟩:=h;refine⟨_,(AQ asr (AQ (AZ (3) dO.nd (BK kg (Ao RY (Fv RY)))) (AQ (AZ (4) dO.nd asG) (AQ (AZ (5) dO.nd asG) (AQ (AZ (6) dO.nd (BK kh (Ff (Ao RY (Ao ai (Jb BP)))))) (AQ (AZ (7) dO.nd (BK jt (Ff (Ao RY (Ao ai (HQ (Jb Ca))))))) (AQ (AZ (8) dO.nd (My g9)) (A8 (Az (Dr (Ao Ca (Ao EM (Ao G6 (AB (BK ki (Ao RY (Ao (Ve (amU K) (pv 3) ya (Qe ai)) (AB (Bd G6 ai))))))))))))))))))),?_⟩;refine⟨λσ H1=>∃many:Int,σ=[sR a,sI most,sI many,none,none,none,none,none,none]/\H1=H/\1<=many/\many<=12,?_,?_⟩
  ·refine⟨_,rfl,a,ns,2,rfl,hS,AN,_,_,rfl,rfl,(show(0:Int)<5 by decide),_,_,rfl,rfl,_,rfl,_,_,rfl,rfl, .inr ⟨_,rfl,_,_,rfl,rfl, .inr ⟨AN,AN⟩,_,_,rfl,rfl,_,rfl,rfl,?_,?_⟩⟩
   ·split<;>lia
   ·split<;>lia
  rintro σ H ⟨many,rfl,rfl,hy0,BI⟩;refine⟨λσ H1=>∃(b:Addr)(zs:List Str),σ=[sR a,sI most,sI many,sR b,none,none,none,none,none]/\av H H1/\H1 b=some (.lst GA)/\(1<=zs.length/\zs.length<=12)/\(∀z∈zs,uC z=true)/\zs.Nodup,?_,?_⟩
  ·exact⟨_,rfl,a,ns,0,rfl,hS,AN,_,rfl,a,ns,1,rfl,hS,AN,_,rfl,_,_,many,rfl,by lia,by lia,λH' b zs s1 hb kI hz hw hn=>⟨b,zs,rfl,s1,kI,by lia,hw,hn⟩⟩
  rintro σ H1 ⟨b,zs,rfl,s1,kI,hz,hw,hn⟩;have SV:=s1.seq hS;refine⟨λσ H2=>∃one:Int,σ=[sR a,sI most,sI many,sR b,sI one,none,none,none,none]/\H2=H1/\0<=one/\one<=most,?_,?_⟩
  ·have z0:0<=cell ns 3%(most+1):=Int.emod_nonneg _ (by lia);have z1:cell ns 3%(most+1)<most+1:=GY A3;exact⟨_,rfl,_,rfl,a,ns,3,rfl,SV,AN,_,rfl,_,_,rfl,rfl,_,_,rfl,rfl,(show(0:Int)<most+1 by lia),_,_,rfl,rfl,_,rfl,rfl,by lia,by lia⟩
  rintro σ H1 ⟨one,rfl,rfl,ho0,KP⟩;refine⟨λσ H2=>∃Lq:Int,σ=[sR a,sI most,sI many,sR b,sI one,sI Lq,none,none,none]/\H2=H1/\0<=Lq/\Lq<=most,?_,?_⟩
  ·have z0:0<=cell ns 4%(most+1):=Int.emod_nonneg _ (by lia);have z1:cell ns 4%(most+1)<most+1:=GY A3;exact⟨_,rfl,_,rfl,a,ns,4,rfl,SV,AN,_,rfl,_,_,rfl,rfl,_,_,rfl,rfl,(show(0:Int)<most+1 by lia),_,_,rfl,rfl,_,rfl,rfl,by lia,by lia⟩
  rintro σ H1 ⟨Lq,rfl,rfl,Lh,Se⟩;refine⟨λσ H2=>∃(x:Addr)(xs:List Str),σ=[sR a,sI most,sI many,sR b,sI one,sI Lq,sR x,none,none]/\av H1 H2/\H2 x=some (.lst (MI V.str))/\xs.length=one.toNat/\∀w∈xs,w∈zs,?_,?_⟩
  ·exact⟨_,rfl,_,rfl,a,ns,10,rfl,SV,AN,_,rfl,_,rfl,a,b,ns,zs,_,16,one,rfl,SV,kI,⟨hz.1,by lia⟩,AN,ho0,by lia,λH2 x xs s2 hx z9 hl pW=>⟨x,xs,rfl,s2,z9,hl,pW⟩⟩
  rintro σ H2 ⟨x,xs,rfl,s2,z9,Jq,Xl⟩;have s3:=Bl s2;have Xo:=s2.seq SV;refine⟨λσ H3=>∃(y:Addr)(ys:List Str),σ=[sR a,sI most,sI many,sR b,sI one,sI Lq,sR x,sR y,none]/\av H2 H3/\H3 y=some (.lst (ys.map V.str))/\ys.length=Lq.toNat,?_,?_⟩
  ·exact⟨_,rfl,_,rfl,a,ns,11,rfl,Xo,AN,_,rfl,_,rfl,_,rfl,a,b,x,ns,zs,xs,_,17,Lq,rfl,Xo,BY kI,z9,⟨hz.1,by lia⟩,by lia,Xl,AN,Lh,by lia,λH3 y ys s4 hy wk hl _=>⟨y,ys,rfl,s4,wk,hl⟩⟩
  rintro σ H3 ⟨y,ys,rfl,s4,Em,Lk⟩;have s5:=Ji s4;have Zd:=s4.seq Xo;refine⟨λσ H4=>∃(n:Addr)(sa ou iN le:Int),σ=[sR a,sI most,sI many,sR b,sI one,sI Lq,sR x,sR y,sR n]/\av H3 H4/\H4 n=some (.lst [.int sa, .int ou, .int iN, .int le])/\(1<=sa/\sa<=999999)/\(0<=ou/\ou<=999999)/\(0<=iN/\iN<=999999)/\(1<=le/\le<=999999),?_,?_⟩
  ·exact⟨_,rfl,a,ns,5,rfl,Zd,AN,λH4 D sa ou iN le s6 hD Jx h1 h2 h3 h4=>⟨D,sa,ou,iN,le,rfl,s6,Jx,h1,h2,h3,h4⟩⟩
  rintro σ H4 ⟨n,sa,ou,iN,le,rfl,s6,Ze,h1,h2,h3,h4⟩;have s7:=HY s6;have hS4:=s6.seq Zd;have hb4:H4 b=some (.lst GA):=EW (Cu (BY kI));refine⟨_,rfl,_,rfl,_,rfl,_,rfl,a,ns,9,rfl,hS4,AN,_,rfl,_,rfl,b,_,rfl, .of hb4,λb5 PV=>?_⟩;have e5:ET GA none (some 5)=(zs.take 5).map V.str:=by
   have:HT.lD (FQ V.str).length (FQ V.str).length (some 5)=min 5 zs.length:=by
    rw[List.length_map];simp only[HT.lD];split<;>lia
   have e0:HT.lD (FQ V.str).length 0 none=0:=by simp[HT.lD]
   unfold ET;rw[this,e0,List.drop_zero,Nat.sub_zero,<-List.map_take]
   congr 1
   apply List.ext_getElem?;intro i;rw[List.getElem?_take,List.getElem?_take];by_cases hi:i<zs.length
   ·by_cases h5:i<5
    ·rw[A7 A3,A7 h5]
    ·rw[A6 A3,A6 h5]
   ·simp[FI (by lia:zs.length<=i)]
  rw[e5];have s8:av H4 (DT H4 b5 (.lst ((zs.take 5).map V.str))):=Aa PV;have hn8:=Dm Ze;refine⟨_,rfl,n,_,0,_,rfl,rfl, .of hn8,AI (j:=0),_,sa,b5,zs.take 5,rfl,ae,by simp;lia,λz hz=>hw z (HP hz),hn.sublist (List.take_sublist ..),h1.1,h1.2,λH6 l us fs s9 hl Zf T6 g6=>?_⟩;have sA:=(Kr s8).trans s9;refine⟨aE A9,λr hr=>?_⟩;have sB:=Ew (o:= .lst [.ref x, .ref y, .ref n, .ref l]) hr;have sC:=s9.trans sB;refine q _ r ⟨xs,ys,sa,ou,iN,le,fs⟩ x y n l us (sA.trans sB) (sA.free hr) ⟨ae,?_,?_,?_,sB _ _ Zf,T6.same sB⟩ ⟨by show xs.length<=_;lia,by show ys.length<=_;lia,g6,h1,h2,h3,h4⟩
  ·exact sC _ _ (Dm (EW (Cu z9)))
  ·exact sC _ _ (Dm (EW Em))
  ·exact sC _ _ (Dm Ze)
theorem ju:aK ["_law_x","_law_y","_law_same","_law_near_here","_law_old","_law_new","_law_price"] ["_law_x","_law_y","_law_same","_law_near_here"] (au m3):=gC
include T in
theorem asx(F:jh K "_law_pair" "_law_pair" m3 f fd):aZ P w K mg base (AU P) true 1 f fd ["_law_x","_law_y","_law_same","_law_near_here"] uF:=by
 refine F.f' ju Am gD
 ·obtain⟨x,y,same,l,xs,fs,rfl,_⟩:=h;rfl
 ·obtain⟨x,y,same,l,xs,fs,rfl,hl,T1,q⟩:=h;refine⟨_,(AS (Bp avC (A8 (Az Bm))) (AS (DB (E7 Bg) (Kt (Bs (Af (4) ju.nd) (Bs (Af (5) ju.nd) (DJ (Af (6) ju.nd))))) (A8 (Bp (CO (Ht (Hu BP (pv 0)) (J8 (Hu DK (pv 1))))) (A8 (Az (FV Bm (pv 6))))))) (A8 (Az jD)))),?_⟩;refine⟨_,rfl,_,rfl,rfl,_,rfl,?_⟩;refine a9 KY (λh=>?_)
  ·have h:x=y:=by simpa using h
   rw[show dS same fs x y=some same by simp[dS,h]]at q;exact⟨_,rfl,q⟩
  have h:¬x=y:=by simpa using h
  refine⟨_,rfl,l,rfl,⟨_, .of hl⟩,?_⟩;refine br (xs:=xs) (λi σ H'=>(∃u1 u2 u3,σ=[sS x,sS y,sI same,sR l,u1,u2,u3])/\H'=H/\∀f∈fs.take i,¬(f.1=x/\f.2.1=y)) ⟨⟨_,_,_,rfl⟩,rfl,AA⟩ ?_ ?_ ?_
  ·rintro i σ H' _ ⟨_,rfl,_⟩;exact .of hl
  ·rintro i v σ H' hv ⟨⟨u1,u2,u3,rfl⟩,rfl,Fe⟩;have hi:i<fs.length:=by rw[<-T1.1];exact(AM hv).1
   have hf:fs[i]?=some fs[i]:=by simp[hi]
   generalize fs[i]=f0 at hf;obtain⟨t,zY,vX⟩:=T1.2 i f0 hf;rw[hv]at zY;cases zY;obtain⟨x0,y0,p0⟩:=f0;refine⟨t,_,rfl, .of vX,rfl,_,_,rfl,_,_,rfl,_,_,rfl,rfl,?_⟩;have Uv:¬(x0=x/\y0=y)->∀f∈fs.take (i+1),¬(f.1=x/\f.2.1=y):=λed f acC=>by
    rw[List.take_succ,hf]at acC;rcases List.mem_append.mp acC with h|h
    ·exact Fe f h
    ·have h:f=(x0,y0,p0):=by simpa using h
     rw[h];exact ed
   refine⟨_,rfl,_,rfl,rfl,_,rfl,?_⟩;refine a9 Dg (λhh=>?_)
   ·have Ct:x0=x:=by simpa using hh
    refine⟨_,rfl,_,rfl,rfl,_,rfl,?_⟩;refine a9 Dg (λhh=>?_)
    ·have kI:y0=y:=by simpa using hh
     have e:eP fs x y=some p0:=tq hf Fe ⟨Ct,kI⟩;rw[show dS same fs x y=some (same-p0) by simp[dS,h,e]]at q;exact⟨_,rfl,_,rfl,_,_,rfl,rfl,q⟩
    ·have kI:¬y0=y:=by simpa using hh
     exact⟨⟨_,_,_,rfl⟩,rfl,Uv λz=>kI z.2⟩
   ·have Ct:¬x0=x:=by simpa using hh
    refine gu ?_;exact⟨⟨_,_,_,rfl⟩,rfl,Uv λz=>Ct z.1⟩
  ·rintro σ H' ⟨⟨u1,u2,u3,rfl⟩,rfl,Fe⟩;rw[T1.1,List.take_length]at Fe;have e:eP fs x y=none:=alf Fe;rw[show dS same fs x y=none by simp[dS,h,e]]at q;exact q
variable(bU:bI P w K mg base true 1 "_law_pair" ["_law_x","_law_y","_law_same","_law_near_here"] uF)
theorem cF:aK ["_law_case_here","_law_way","_law_total","_law_k","_law_i","_law_j","_law_gain"] ["_law_case_here","_law_way"] (au lT):=gC
include T bU in
theorem akX(F:jh K "_law_worth" "_law_worth" lT f fd):aZ P w K mg base (AU P) true 2 f fd ["_law_case_here","_law_way"] rK:=by
 refine F.f' cF Am gD
 ·obtain⟨a,w,c,f,g,m,l,us,ws,ps,rfl,_⟩:=h;rfl
 ·obtain⟨a,w,c,x1,x2,m,l,us,ws,ps,rfl,C1,no,hw,P1,hlen,Lf,q⟩:=h;obtain⟨ed,J_⟩:=lG Lf;have aoT:0<ps.length:=Y3 ed;have Lg:=P1.1;have jv:=C1.ca;have wK:=C1.nu;have nO:=no.out;have nI:=no.into;refine⟨_,(AS (AZ (2) cF.nd ai) (pC (DB vp (Af (3) cF.nd) (AS (MO (TL Bg) (Ey (Bs (Af (4) cF.nd) (DJ (Af (5) cF.nd))))) (AS (AZ (6) cF.nd (BK bU (Ao awy (Ao (G9 DK) (RA L8))))) (AS (lE Χ) (AS (AZ (2) cF.nd (ZE Ca)) (A8 (Bp (Cb oC Bg ai) (AS (AZ (2) cF.nd (FV Bm (VU (ED (adn BP))))) (A8 (AZ (2) cF.nd (FV Bm (VU (ED (adn DK)))))))))))))))),?_⟩;refine⟨_,rfl,w,_,rfl, .inl (.of hw),(ws.length:Int),rfl,by lia,by lia,?_⟩;refine gG (λi σ H'=>(∃(u1 u2 u3 u4:Option V),σ=[sR a,sR w,sI ((if i=0 then 0 else dW c ps (i-1))),u1,u2,u3,u4])/\H'=H) ⟨⟨_,_,_,_,rfl⟩,rfl⟩ ?_ ?_
  ·rintro i σ H' hi ⟨⟨u1,u2,u3,u4,rfl⟩,e0⟩;subst e0;have hi:i<ps.length:=by lia
   obtain⟨tt,zY,vX⟩:=Mz hi;obtain⟨wo,UR⟩:=awn (J_ i hi);obtain⟨b1,b2⟩:=Ni UR;obtain⟨x,mB,z9⟩:=xM b1.1 b1.2;obtain⟨y,BI,wk⟩:=xM b2.1 b2.2;have ep:c.pw (Av i)=dS c.same c.fs x y:=OD mB BI;refine⟨_,rfl,_,rfl,w,_,_,_,rfl,rfl, .of hw,acL zY,tt,_,rfl, .of vX,rfl,_,_,rfl,_,_,rfl,rfl,?_⟩;refine⟨_,rfl,a,_,0,_,rfl,rfl, .of jv,AI (j:=0),_,rfl,x1,_,_,_,rfl,rfl, .of C1.fi,z9,_,rfl,a,_,1,_,rfl,rfl, .of jv,AI (j:=1),_,rfl,x2,_,_,_,rfl,rfl, .of C1.se,wk,_,rfl,a,_,2,_,rfl,rfl, .of jv,AI (j:=2),m,_,0,_,rfl,rfl, .of wK,AI (j:=0),_,rfl,a,_,3,_,rfl,rfl, .of jv,AI (j:=3),x,y,c.same,l,us,c.fs,rfl,C1.ne,C1.tr,?_⟩;rw[<-ep,UR];refine⟨_,rfl,_,rfl,?_⟩;refine a9 (λhh=>absurd hh (by simp[bu])) (λ_=>?_);refine⟨_,rfl,_,rfl,_,_,rfl,rfl,?_⟩;refine⟨_,rfl,_,_,rfl,rfl,_,rfl,?_⟩;refine a9 He (λh2=>?_)
   ·have h2:0<i:=by
     have:(0:Int)<0+(i:Int):=by simpa using h2
     lia
    obtain⟨j,rfl⟩:∃j,i=j+1:=⟨i-1,by lia⟩
    have e1:((0+((j+1:Nat):Int))-1)=((j:Nat):Int):=by lia
    obtain⟨t2,Se,IG⟩:=Mz (show j<ps.length by lia);have zX:uc ws ((0+((j+1:Nat):Int))-1)=some (.ref t2):=by rw[e1];exact ar Se
    refine⟨_,rfl,_,rfl,a,_,2,_,rfl,rfl, .of jv,AI (j:=2),m,_,1,_,rfl,rfl, .of wK,AI (j:=1),_,rfl,_,rfl,_,rfl,_,_,rfl,rfl,w,_,_,_,rfl,rfl, .of hw,zX,t2,_,0,_,rfl,rfl, .of IG,AI (j:=0),_,_,rfl,rfl,_,_,rfl,rfl,_,_,rfl,rfl, .inl ⟨by lia,by lia⟩,_,_,rfl,rfl,?_⟩;refine⟨_,rfl,_,rfl,a,_,2,_,rfl,rfl, .of jv,AI (j:=2),m,_,2,_,rfl,rfl, .of wK,AI (j:=2),_,rfl,_,rfl,_,rfl,_,_,rfl,rfl,w,_,_,_,rfl,rfl, .of hw,zX,t2,_,1,_,rfl,rfl, .of IG,AI (j:=1),_,_,rfl,rfl,_,_,rfl,rfl,_,_,rfl,rfl, .inl ⟨by lia,by lia⟩,_,_,rfl,rfl,⟨some (.int (0+((j+1:Nat):Int))),some (.int (Av (j+1)).1),some (.int (Av (j+1)).2),some (.int wo),?_⟩,rfl⟩;have:dW c ps (j+1)=dW c ps j+wo-c.out*((Av (j+1)).1-(Av j).1-1)-c.into*((Av (j+1)).2-(Av j).2-1):=by
     simp only[dW,UR,Case.gap,Option.getD_some]
     lia
    simp only[Nat.add_sub_cancel,Nat.succ_ne_zero,if_false,this];rfl
   ·have h2:i=0:=by
     have:¬(0:Int)<0+(i:Int):=by simpa using h2
     lia
    subst h2;refine⟨⟨some (.int (0+((0:Nat):Int))),some (.int (Av 0).1),some (.int (Av 0).2),some (.int wo),?_⟩,rfl⟩;have:dW c ps 0=0+wo:=by simp[dW,UR]
    simp only[Nat.zero_add,Nat.sub_self,Nat.one_ne_zero,if_false,this];rfl
  ·rintro σ H' ⟨⟨u1,u2,u3,u4,rfl⟩,rfl⟩;have e:((ws.length:Nat):Int).toNat=ps.length:=by lia
   rw[e,A6 A3];exact⟨_,rfl,q⟩
variable(bj:bI P w K mg base true 1 "_law_whole" ["_law_found"] uD)
theorem aaC:aK ["_law_found","_law_pair_here"] ["_law_found"] (au lU):=gC
include T bj in
theorem awk(F:jh K "_law_pairs" "_law_pairs" lU f fd):aZ P w K mg base (AU P) true 2 f fd ["_law_found"] rJ:=by
 refine F.f' aaC Am gD
 ·obtain⟨a,us,ps,rfl,_⟩:=h;rfl
 ·obtain⟨a,us,ps,rfl,ha,P1,q⟩:=h;refine⟨_,(AS (CJ (Cv (Bn (NH (Ff awF))))) (yk (k_ (Af (1) aaC.nd) (AS (CJ (CO (Cg (Cv (Bn (NH (HR (AB (qz (.ty "tuple") T.ako PyProof.Rows.Boot.«tuple»)))))) (EL (Cb Ae atc ai))))) (A8 (CJ (CO (Cg zf (EL zf))))))))),?_⟩;refine⟨_,rfl,_,_,_,true,_,rfl,rfl, .lst ha,rfl,_,rfl,?_⟩;refine gu ?_;refine⟨_,rfl,a,rfl,⟨_, .of ha⟩,?_⟩;refine br (xs:=us) (λi σ H'=>(∃u,σ=[sR a,u])/\H'=H) ⟨⟨_,rfl⟩,rfl⟩ ?_ ?_ ?_
  ·rintro i σ H' _ ⟨_,rfl⟩;exact .of ha
  ·rintro i v σ H' hv ⟨⟨u,rfl⟩,rfl⟩;have hi:i<ps.length:=by rw[<-P1.1];exact(AM hv).1
   obtain⟨t,zY,vX⟩:=Mz hi;rw[hv]at zY;cases zY;refine⟨_,rfl,_,_,_,true,_,rfl,rfl, .tup vX,rfl,_,rfl,?_⟩;refine gu ?_;refine⟨_,rfl,t,_,rfl, .inr (.of vX),rfl,_,rfl,?_⟩;refine a9 N7 (λ_=>?_);refine⟨_,rfl,t,_,0,_,rfl,rfl, .of vX,AI (j:=0),_,rfl,_,rfl,?_⟩;refine gu ?_;refine⟨_,rfl,t,_,1,_,rfl,rfl, .of vX,AI (j:=1),_,rfl,_,rfl,?_⟩;refine gu ?_;exact⟨⟨_,rfl⟩,rfl⟩
  ·rintro σ H' ⟨⟨u,rfl⟩,rfl⟩;exact q
variable(qK:oE P w K mg base true 5 "Terms" aQ ["self","same","out","into","least","part","near"] [] (ue aQ fL d7))
theorem oM:aK ["_law_case_here","_law_n"] ["_law_case_here"] (au lV):=gC
include T qK in
theorem avN(F:jh K "_law_terms" "_law_terms" lV f fd):aZ P w K mg base (AU P) true 7 f fd ["_law_case_here"] (rH aQ):=by
 refine F.f' oM Am gD
 ·obtain⟨a,c,f,g,m,l,us,most,rfl,_⟩:=h;rfl
 ·obtain⟨a,c,x1,x2,m,l,us,most,rfl,C1,ok,q⟩:=h;refine⟨_,(AS (AZ (1) oM.nd p6) (A8 (Az (Qp qK (Ao NK (Ao NK (Ao NK (Ao NK (Ao ai (AB l6)))))))))),?_⟩;have wK:=C1.nu;have jv:=C1.ca;refine⟨_,rfl,a,_,2,_,rfl,rfl, .of jv,AI (j:=2),?_⟩;refine⟨_,rfl,m,_,0,_,rfl,rfl, .of wK,AI (j:=0),_,rfl,m,_,1,_,rfl,rfl, .of wK,AI (j:=1),_,rfl,m,_,2,_,rfl,rfl, .of wK,AI (j:=2),_,rfl,m,_,3,_,rfl,rfl, .of wK,AI (j:=3),_,rfl,a,_,3,_,rfl,rfl, .of jv,AI (j:=3),l,us,rfl, .inl (.of C1.ne),λh hh=>λx dx hx xK ed=>?_⟩;have s5:av (lh h) (DT (sj (lh h)) x (.ins aQ dx [])):=(Aa xK).eA hx;have s4:av H (lh h):=Aa hh;refine⟨x,dx,⟨c.same,c.out,c.into,c.least,50⟩, .ref h,us,c.fs,rfl,ae,by rw[aq ed];exact ae, .inr ⟨h,rfl,CV ae,C1.tr.same (J1 s5)⟩,aso ok.good,?_⟩;have ok1:jJ ⟨c.same,c.out,c.into,c.least,50⟩=true:=by
   have:=ok.same;have:=ok.out;have:=ok.into;have:=ok.least;simp[jJ,inR]
   lia
  rw[A7 ok1,A7 ok.good];intro H6 l2 d sb T6 Zf hd6;exact⟨rfl,q H6 x (J1 (M4 hx xK)) ⟨_,dx,l2,d,us,T6,rfl,rfl,rfl,rfl⟩⟩
theorem dP:aK ["_law_case_here","_law_many","_law_x","_law_y","_law_each","_law_same","_law_least"] ["_law_case_here"] (au m4):=gC
include T bU in
theorem apk(F:jh K "_law_calm" "_law_calm" m4 f fd):aZ P w K mg base (AU P) true 2 f fd ["_law_case_here"] yW:=by
 refine F.f' dP Am gD
 ·obtain⟨a,c,f,g,m,l,us,rfl,_⟩:=h;rfl
 ·obtain⟨a,c,x1,x2,m,l,us,rfl,C1,ok,q⟩:=h;refine⟨_,(AQ (AZ (1) dP.nd ai) (AQ (adE (Af (2) dP.nd) (A8 (adE (Af (3) dP.nd) (A8 (AZ (1) dP.nd (CY Ba (W9 (AB (@BJ _ _ _ _ _ _ (QU (BK bU (Ij (Oc (RA L8))))) (by first|exact bq _ (AN) (AN)|rfl)))))))))) (AQ (AZ (4) dP.nd (GL (IH Ba))) (AQ (AZ (5) dP.nd (ZK (Ao L8 (AB (Cy eK ai BP))))) (AQ (AZ (6) dP.nd (qB (akK rfl) T.LW PyProof.Rows.Boot.«max» (Ao L8 (AB (GL (Cy lB (ED BP) (pv 5))))))) (A8 (Az (Dr (Ao p6 (Ao p6 (RA (Dr (HQ (Ao L8 (Ao L8 (AB Ca)))))))))))))))),?_⟩;have jv:=C1.ca;have wK:=C1.nu;have lx:(Im V.str).length=c.xs.length:=List.length_map ..;have ly:(J7 V.str).length=c.ys.length:=List.length_map ..;refine⟨λσ H1=>H1=H/\σ=[sR a,sI 0,none,none,none,none,none],⟨rfl,rfl⟩,?_⟩;rintro σ H1 ⟨rfl,rfl⟩;refine⟨λσ H2=>H2=H1/\∃u v,σ=[sR a,sI (manyN c c.xs.length:Nat),u,v,none,none,none],?_,?_⟩
  ·refine⟨_,rfl,a,_,0,_,rfl,rfl, .of jv,AI (j:=0),x1,rfl,⟨_, .of C1.fi⟩,?_⟩;refine br (xs:=Im V.str) (λi σ H2=>H2=H1/\∃u v,σ=[sR a,sI (manyN c i:Nat),u,v,none,none,none]) ⟨rfl,_,_,rfl⟩ ?_ ?_ ?_
   ·rintro i σ H2 _ ⟨rfl,_⟩;exact .of C1.fi
   ·rintro i v σ H2 hv ⟨rfl,u1,u2,rfl⟩;obtain⟨wx,UL,rfl⟩:=nH hv;refine⟨_,rfl,a,_,1,_,rfl,rfl, .of jv,AI (j:=1),x2,rfl,⟨_, .of C1.se⟩,?_⟩;refine br (xs:=J7 V.str) (λj σ H3=>H3=H2/\∃v,σ=[sR a,sI (manyN c i+IM c i j:Nat),sS wx,v,none,none,none]) ⟨rfl,_,rfl⟩ ?_ ?_ ?_
    ·rintro j σ H3 _ ⟨rfl,_⟩;exact .of C1.se
    ·rintro j v σ H3 Jy ⟨rfl,u3,rfl⟩;obtain⟨wy,Ge,rfl⟩:=nH Jy;have W5:c.pw (aN (i,j))=dS c.same c.fs wx wy:=OD (by rw[show(aN (i,j)).1=(i:Int)from rfl,uH];exact UL) (by rw[show(aN (i,j)).2=(j:Int)from rfl,uH];exact Ge);refine⟨_,rfl,_,rfl,_,rfl,_,rfl,a,_,2,_,rfl,rfl, .of jv,AI (j:=2),m,_,0,_,rfl,rfl, .of wK,AI (j:=0),_,rfl,a,_,3,_,rfl,rfl, .of jv,AI (j:=3),wx,wy,c.same,l,us,c.fs,rfl,C1.ne,C1.tr, .inr ⟨_,rfl,_,_,rfl,rfl,rfl,some (.str wy),?_⟩⟩;rw[aor,W5];cases dS c.same c.fs wx wy<;>simp[bu,List.set]<;>lia
    ·rintro σ H3 ⟨rfl,u3,rfl⟩;rw[ly];exact⟨rfl,_,_,rfl⟩
   ·rintro σ H2 ⟨rfl,u1,u2,rfl⟩;rw[lx];exact⟨rfl,_,_,rfl⟩
  rintro σ H1 ⟨rfl,u,v,rfl⟩;have axW:manyN c c.xs.length<=3600:=by
   have:=Ef c c.xs.length;have h2:=KO ok.x ok.y
   lia
  have ee:((manyN c c.xs.length:Nat):Int)/21+1=(cj c:Int):=by unfold cj;lia
  have he:(1:Int)<=cj c/\(cj c:Int)<=172:=by unfold cj;lia
  refine⟨λσ H2=>H2=H1/\σ=[sR a,sI (manyN c c.xs.length:Nat),u,v,sI (cj c),none,none],⟨_,rfl,_,_,rfl,rfl,⟨AN,AN⟩,_,_,rfl,rfl,rfl,by rw[ee];rfl⟩,?_⟩;rintro σ H1 ⟨rfl,rfl⟩;have es:(if 999999/(cj c:Int)<c.same then 999999/(cj c:Int)else c.same)=fm c:=by unfold fm;split<;>lia
  refine⟨λσ H2=>H2=H1/\σ=[sR a,sI (manyN c c.xs.length:Nat),u,v,sI (cj c),sI (fm c),none],⟨_,rfl,a,_,2,_,rfl,rfl, .of jv,AI (j:=2),m,_,0,_,rfl,rfl, .of wK,AI (j:=0),_,rfl,_,_,rfl,rfl,⟨by lia,by lia⟩,_,_,rfl,rfl,by rw[es];rfl⟩,?_⟩;rintro σ H1 ⟨rfl,rfl⟩;have s1:1<=fm c/\fm c<=999999:=by
   have:=(τ ok).same;exact this
  have el:(if ((cj c:Int)-1)*fm c+1>c.least then((cj c:Int)-1)*fm c+1 else c.least)=(cW c).least:=by show _=max c.least _;split<;>lia
  refine⟨λσ H2=>H2=H1/\σ=[sR a,sI (manyN c c.xs.length:Nat),u,v,sI (cj c),sI (fm c),sI ((cW c).least)],⟨_,rfl,a,_,2,_,rfl,rfl, .of jv,AI (j:=2),m,_,3,_,rfl,rfl, .of wK,AI (j:=3),_,rfl,_,_,rfl,rfl,_,rfl,_,_,rfl,rfl, .inl ⟨by lia,by lia⟩,_,_,rfl,rfl,_,_,rfl,rfl,by rw[el];rfl⟩,?_⟩;rintro σ H1 ⟨rfl,rfl⟩;refine⟨_,rfl,a,_,0,_,rfl,rfl, .of jv,AI (j:=0),_,rfl,a,_,1,_,rfl,rfl, .of jv,AI (j:=1),_,rfl,_,rfl,a,_,2,_,rfl,rfl, .of jv,AI (j:=2),m,_,1,_,rfl,rfl, .of wK,AI (j:=1),_,rfl,a,_,2,_,rfl,rfl, .of jv,AI (j:=2),m,_,2,_,rfl,rfl, .of wK,AI (j:=2),_,rfl,aE A9,λm' Ha=>?_⟩;have sm:=Ew (o:= .lst [.int (fm c), .int c.out, .int c.into, .int (cW c).least]) Ha;have ahh:=sm _ _ jv;refine⟨_,rfl,a,_,3,_,rfl,rfl, .of ahh,AI (j:=3),aE A9,λb hb=>?_⟩;have sb:=Ew (o:= .lst [.ref x1, .ref x2, .ref m', .ref l]) hb;have sA:=sm.trans sb;exact q _ b m' sA (sm.free hb) ae ⟨ae,ZA C1.fi,ZA C1.se,sb _ _ ae,ZA C1.ne,C1.tr.same sA⟩
variable(g_:bI P w K mg base true 2 "_law_pairs" ["_law_found"] rJ)
theorem abv:aK ["_law_found","_law_told"] ["_law_found"] (au gX):=gC
include T Fc bj g_ in
theorem alv(F:jh K "_law_finding" "_law_finding" gX f fd):aZ P w K mg base (AU P) true 3 f fd ["_law_found"] (ve aA):=by
 refine F.f' abv Am gD
 ·obtain⟨y,P,d,dy,wy,rw,pr,mC,iC,rfl,_⟩:=h;rfl
 ·obtain⟨y,P,d,dy,wy,il,pr,mC,iC,rfl,F,hl,ed,q⟩:=h;have hu:=hr.units;have Jv:(Bc (Dj "_law_finding" (au gX))).units<cLine:=by lia
  refine⟨_,(AS (CJ (CO (Cg (Cv (Bn (W4 bj aO))) (Cg Μ (EL Μ))))) (AS (CJ (CO (Cg (Cv (Bn (NH (Ao KC (AB axI))))) (Cg (Cb Ae ι (C9 avI)) (EL (Cb (afl K Jv) (FO K) (Dr af))))))) (yk (DB (E7 KC) (Af (1) abv.nd) (A8 (CJ (Cv (Bn (Vr bj))))))))),?_⟩;have h1:mC≠[]:=λz=>ed (L4 (by rw[<-F.pw.1,z];rfl))
  refine⟨_,rfl,y,aA,dy,_,_,rfl,F.ob,Fc.cl,Fc.worth,JW d.worth,_,rfl,_,rfl,?_⟩;refine gu ?_;refine⟨_,rfl,y,aA,dy,_,_,rfl,F.ob,Fc.cl,Fc.way,LB pr,wy,mC,d.way,rfl,F.hw,F.pw,_,rfl,?_⟩;refine gu ?_;refine⟨_,rfl,y,aA,dy,_,_,rfl,F.ob,Fc.cl,Fc.pairs,VP pr,pr,iC,d.pairs,rfl,F.hp,F.pp,_,rfl,?_⟩;refine gu ?_;refine⟨_,rfl,y,aA,dy,_,_,rfl,F.ob,Fc.cl,Fc.row,V1 d.worth,_,_,_,true,_,rfl,rfl, .lst F.hr,rfl,_,rfl,?_⟩;refine gu ?_;refine⟨_,rfl,y,aA,dy,_,_,rfl,F.ob,Fc.cl,Fc.row,V1 d.worth,il,_,rfl, .inl (.of F.hr),_,rfl,y,aA,dy,_,_,rfl,F.ob,Fc.cl,Fc.way,LB pr,wy,_,rfl, .inl (.of F.hw),rfl,_,rfl,?_⟩;have h2:(fQ V.int).length=mC.length:=by rw[List.length_map,hl,F.pw.1]
  rw[h2];refine a9 N7 (λ_=>?_);refine⟨_,rfl,y,aA,dy,_,_,rfl,F.ob,Fc.cl,Fc.way,LB pr,aE A9,λe he=>⟨wy,e,mC,[],λ_=>true,rfl,rfl, .of (Bt he F.hw), .of ae,(λj x y _ h=>by simp at h),_,rfl,?_⟩⟩;refine a9 (λhh=>BO hh (by simpa using h1)) (λ_=>?_);have s1:=U1 he;generalize upd H e (.lst [])=H1 at s1;refine⟨_,rfl,y,aA,dy,_,_,rfl,Bh F.ob,Fc.cl,Fc.row,V1 d.worth,il,rfl,⟨_, .of (Bh F.hr)⟩,?_⟩;refine br (xs:=fQ V.int) (λi σ H'=>(∃u,σ=[sR y,u])/\H'=H1) ⟨⟨_,rfl⟩,rfl⟩ ?_ ?_ ?_
  ·rintro i σ H' _ ⟨_,rfl⟩;exact .of (Bh F.hr)
  ·rintro i v σ H' hv ⟨⟨u,rfl⟩,rfl⟩;rw[List.getElem?_map]at hv;obtain⟨z,_,rfl⟩:=YK hv;refine⟨_,rfl,_,rfl,_,rfl,?_⟩;refine gu ?_;exact⟨⟨_,rfl⟩,rfl⟩
  ·rintro σ H' ⟨⟨u,rfl⟩,rfl⟩;exact E8 s1
theorem hG:aK ["_law_case_here","_law_way","_law_k","_law_i","_law_j"] ["_law_case_here","_law_way"] (au iF):=gC
include T bU in
theorem avj(F:jh K "_law_is_way" "_law_is_way" iF f fd):aZ P w K mg base (AU P) true 2 f fd ["_law_case_here","_law_way"] uK:=by
 refine F.f' hG Am gD
 ·obtain⟨a,w,c,f,g,m,l,us,ws,ps,rfl,_⟩:=h;rfl
 ·obtain⟨a,w,c,x1,x2,m,l,us,ws,ps,rfl,C1,hw,P1,hlen,q⟩:=h;have hu:=hr.units;have Jv:(Bc (Dj "_law_is_way" (au iF))).units<cLine:=by lia
  have Lg:=P1.1;have jv:=C1.ca;have wK:=C1.nu;have lx:(Im V.str).length=c.xs.length:=List.length_map ..;have ly:(J7 V.str).length=c.ys.length:=List.length_map ..;refine⟨_,(AS (DB vp (Af (2) hG.nd) (AS (MO (TL Bm) (Ey (Bs (Af (3) hG.nd) (DJ (Af (4) hG.nd))))) (AS (CJ (CO (Cg (Fg Bg ai) (Cg (Fg BP ai) (Cg (Cb Dy Bg (C9 yE)) (EL (Cb Dy BP (C9 yE)))))))) (AS (CJ (Bx (FR zC))) (A8 (CJ (CO (Ht (Cb oC Bm ai) (J8 (CO (Cg (Cb Dx Bg (E5 avX)) (EL (Cb Dx BP (E5 avX)))))))))))))) (A8 (Az (Fs (aaV K Jv) (pv 1) (Dr af))))),?_⟩;refine⟨_,rfl,w,_,rfl, .inl (.of hw),(ws.length:Int),rfl,by lia,by lia,?_⟩;refine gG (λi σ H'=>(∃(u1 u2 u3:Option V),σ=[sR a,sR w,u1,u2,u3])/\H'=H/\mO c ps i) ⟨⟨_,_,_,rfl⟩,rfl,λk hk=>by lia⟩ ?_ ?_
  ·rintro i σ H' hi ⟨⟨u1,u2,u3,rfl⟩,e0,J_⟩;subst e0;have hi:i<ps.length:=by lia
   obtain⟨tt,zY,vX⟩:=Mz hi;have bad:dR c ps i=false->Q (.bl false) H':=λe=>by
    have:=q H' (.refl _);rw[aoX hi e]at this;exact this
   have Ja:c.pw (Av i)=none->Q (.bl false) H':=λe=>bad (by simp[dR,e])
   refine⟨_,rfl,_,rfl,w,_,_,_,rfl,rfl, .of hw,acL zY,tt,_,rfl, .of vX,rfl,_,_,rfl,_,_,rfl,rfl,?_⟩;refine⟨_,rfl,_,_,rfl,rfl,_,rfl,?_⟩;refine a9 Fw (λh1=>?_)
   ·have h1:(Av i).1<0:=by simpa using h1
    refine j1 ?_;exact Ja Z2
   have h1:¬(Av i).1<0:=by simpa using h1
   refine⟨_,rfl,_,_,rfl,rfl,_,rfl,?_⟩;refine a9 He (λh2=>?_)
   ·have h2:(Av i).2<0:=by simpa using h2
    refine j1 ?_;exact Ja Z2
   have h2:¬(Av i).2<0:=by simpa using h2
   refine⟨_,rfl,_,rfl,a,_,0,_,rfl,rfl, .of jv,AI (j:=0),x1,_,rfl, .inl (.of C1.fi),_,_,rfl,rfl,_,rfl,?_⟩;rw[lx];refine a9 Rp (λh3=>?_)
   ·have h3:(c.xs.length:Int)<=(Av i).1:=by simpa using h3
    refine j1 ?_;exact Ja Z2
   have h3:¬(c.xs.length:Int)<=(Av i).1:=by simpa using h3
   refine⟨_,rfl,_,rfl,a,_,1,_,rfl,rfl, .of jv,AI (j:=1),x2,_,rfl, .inl (.of C1.se),_,_,rfl,rfl,_,rfl,?_⟩;rw[ly];refine a9 Zt (λh4=>?_)
   ·have h4:(c.ys.length:Int)<=(Av i).2:=by simpa using h4
    exact Ja Z2
   have h4:¬(c.ys.length:Int)<=(Av i).2:=by simpa using h4
   obtain⟨x,mB,z9⟩:=XR (xs:=c.xs) (i:=(Av i).1);obtain⟨y,BI,wk⟩:=XR (xs:=c.ys) (i:=(Av i).2);have ep:c.pw (Av i)=dS c.same c.fs x y:=OD mB BI;refine⟨_,rfl,a,_,0,_,rfl,rfl, .of jv,AI (j:=0),_,rfl,x1,_,_,_,rfl,rfl, .of C1.fi,z9,_,rfl,a,_,1,_,rfl,rfl, .of jv,AI (j:=1),_,rfl,x2,_,_,_,rfl,rfl, .of C1.se,wk,_,rfl,a,_,2,_,rfl,rfl, .of jv,AI (j:=2),m,_,0,_,rfl,rfl, .of wK,AI (j:=0),_,rfl,a,_,3,_,rfl,rfl, .of jv,AI (j:=3),x,y,c.same,l,us,c.fs,rfl,C1.ne,C1.tr,_,rfl,?_⟩;rw[<-ep];refine a9 (λh5=>?_) (λh5=>?_)
   ·refine Ja ?_;cases e:c.pw (Av i)with
    |none=>rfl
    |some v=>rw[e]at h5;simp[bu]at h5
   have h5:(Fl (Av i)).isSome=true:=by
    cases e:c.pw (Av i)with
    |none=>rw[e]at h5;simp[bu]at h5
    |some v=>rfl
   refine⟨_,rfl,_,_,rfl,rfl,_,rfl,?_⟩;refine a9 (λh6=>?_) (λh6=>?_)
   rotate_left
   ·have h6:i=0:=by
     have:¬(0:Int)<0+(i:Int):=by simpa using h6
     lia
    refine gu ?_;exact⟨⟨_,_,_,rfl⟩,rfl,J_.next (by simp[dR,h5,h6]at h5⊢;exact h5)⟩
   have h6:0<i:=by
    have:(0:Int)<0+(i:Int):=by simpa using h6
    lia
   obtain⟨j,rfl⟩:∃j,i=j+1:=⟨i-1,by lia⟩
   have e1:((0+((j+1:Nat):Int))-1)=((j:Nat):Int):=by lia
   obtain⟨t2,Se,IG⟩:=Mz (show j<ps.length by lia);have zX:uc ws ((0+((j+1:Nat):Int))-1)=some (.ref t2):=by rw[e1];exact ar Se
   refine⟨_,rfl,_,rfl,_,rfl,_,_,rfl,rfl,w,_,_,_,rfl,rfl, .of hw,zX,t2,_,0,_,rfl,rfl, .of IG,AI (j:=0),_,_,rfl,rfl,_,rfl,?_⟩;refine a9 (λh7=>?_) (λh7=>?_)
   ·have h7:(Av (j+1)).1<=(Av j).1:=by simpa using h7
    refine j1 ?_;refine bad ?_;have:stepOk (Av j) (Av (j+1))=false:=by simp[stepOk];lia
    simp[dR,this]
   have h7:¬(Av (j+1)).1<=(Av j).1:=by simpa using h7
   refine⟨_,rfl,_,rfl,_,rfl,_,_,rfl,rfl,w,_,_,_,rfl,rfl, .of hw,zX,t2,_,1,_,rfl,rfl, .of IG,AI (j:=1),_,_,rfl,rfl,_,rfl,?_⟩;refine a9 (λh8=>?_) (λh8=>?_)
   ·have h8:(Av (j+1)).2<=(Av j).2:=by simpa using h8
    refine bad ?_;have:stepOk (Av j) (Av (j+1))=false:=by simp[stepOk];lia
    simp[dR,this]
   have h8:¬(Av (j+1)).2<=(Av j).2:=by simpa using h8
   refine⟨⟨_,_,_,rfl⟩,rfl,J_.next ?_⟩;have:stepOk (Av j) (Av (j+1))=true:=by simp[stepOk];lia
   simp[dR,h5,this]
  ·rintro σ H' ⟨⟨u1,u2,u3,rfl⟩,e0,J_⟩;subst e0;have e:((ws.length:Nat):Int).toNat=ps.length:=by lia
   rw[e]at J_;refine⟨_,rfl,aE A9,λpn P7=>⟨w,pn,_,rfl,rfl, .of (Bt P7 hw), .of ae,?_⟩⟩;have hq:=E8 (U1 P7);by_cases hz:ps=[]
   ·subst hz;have:ws=[]:=L4 Lg;subst this;exact hq
   ·rw[nJ hz J_]at hq;have:ws≠[]:=λz=>hz (by subst z;exact L4 Lg.symm)
    have:(!ws.isEmpty)=true:=by simpa using this
    rw[this];exact hq
theorem f_:aK ["_law_case_here","_law_shut","_law_found","_law_i","_law_j","_law_gain"] ["_law_case_here","_law_shut"] (au jn):=gC
include T bU in
theorem ajz(F:jh K "_law_spots" "_law_spots" jn f fd):aZ P w K mg base (AU P) true 2 f fd ["_law_case_here","_law_shut"] vc:=by
 refine F.f' f_ Am gD
 ·obtain⟨a,s0,c,f,g,m,l,us,ws,sh,rfl,_⟩:=h;rfl
 ·obtain⟨a,s0,c,x1,x2,m,l,us,ws,sh,rfl,C1,hs,P1,hx,hy,q⟩:=h;have hu:=hr.units;have hu:(Bc (Dj "_law_spots" (au jn))).units+1<cLine:=by lia
  have lx:(Im V.str).length=c.xs.length:=List.length_map ..;have ly:(J7 V.str).length=c.ys.length:=List.length_map ..;refine⟨_,(AS (FX (2) f_.nd) (pC (DB vJ (Af (3) f_.nd) (A8 (DB vJ (Af (4) f_.nd) (AS (AZ (5) f_.nd zC) (A8 (Bp (CO (Ht (Bx (QU DK)) (J8 (@aS _ _ _ _ _ _ _ _ (abm K hu) (CU ZM) (pv 1) (by with_unfolding_all rfl))))) (A8 (BR (E6 Bm (AB (CU (Oc (V6 BP))))))))))))))),?_⟩;refine⟨aE A9,λb hb=>?_⟩;have C2:=Jd (U1 hb);refine⟨_,rfl,a,_,0,_,rfl,rfl, .of C2.ca,AI (j:=0),x1,_,rfl, .inl (.of C2.fi),((Im V.str).length:Int),rfl,by lia,by lia,?_⟩;refine gG (λi σ H'=>(∃u1 u2 u3,σ=[sR a,sR s0,sR b,u1,u2,u3])/\av H H'/\∃xs,H' b=some (.lst xs)/\Ei H' xs (fY c sh i)) ⟨⟨_,_,_,rfl⟩,Aa hb,[],ae, .nil⟩ ?_ ?_
  ·rintro i σ H' hi ⟨⟨u1,u2,u3,rfl⟩,s1,xs,kI,S1⟩;have hi:i<c.xs.length:=by rw[lx]at hi;lia
   have C3:=Jd s1;refine⟨_,rfl,a,_,1,_,rfl,rfl, .of C3.ca,AI (j:=1),x2,_,rfl, .inl (.of C3.se),((J7 V.str).length:Int),rfl,by lia,by lia,?_⟩;refine gG (λj σ H'=>(∃u2 u3,σ=[sR a,sR s0,sR b,sI ((0+(i:Int))),u2,u3])/\av H H'/\∃xs,H' b=some (.lst xs)/\Ei H' xs (fY c sh i++mT c sh i j)) ⟨⟨_,_,rfl⟩,s1,xs,kI,by rw[mT,List.append_nil];exact S1⟩ ?_ ?_
   ·clear s1 kI S1 xs u1 u2 u3 C3 H';rintro j σ H' hj ⟨⟨u2,u3,rfl⟩,s1,xs,kI,S1⟩;have hj:j<c.ys.length:=by rw[ly]at hj;lia
    have C3:=Jd s1;obtain⟨x,mB,z9⟩:=XR (xs:=c.xs) (i:=0+(i:Int));obtain⟨y,BI,wk⟩:=XR (xs:=c.ys) (i:=0+(j:Int));have ez:(0+(i:Int),0+(j:Int))=aN (i,j):=Cd (by simp[aN]) (by simp[aN]);have ep:c.pw (aN (i,j))=dS c.same c.fs x y:=by rw[<-ez];exact OD mB BI
    have sl:=S1.1;have l1:=adN c sh i;have l2:=rV c sh i j;have l3:i*c.ys.length<=50*50:=KO A3 hy;rw[List.length_append]at sl;refine⟨_,rfl,a,_,0,_,rfl,rfl, .of C3.ca,AI (j:=0),_,rfl,x1,_,_,_,rfl,rfl, .of C3.fi,z9,_,rfl,a,_,1,_,rfl,rfl, .of C3.ca,AI (j:=1),_,rfl,x2,_,_,_,rfl,rfl, .of C3.se,wk,_,rfl,a,_,2,_,rfl,rfl, .of C3.ca,AI (j:=2),m,_,0,_,rfl,rfl, .of C3.nu,AI (j:=0),_,rfl,a,_,3,_,rfl,rfl, .of C3.ca,AI (j:=3),x,y,c.same,l,us,c.fs,rfl,C3.ne,C3.tr,?_⟩;rw[<-ep];refine⟨_,rfl,_,rfl,?_⟩;cases e:c.pw Be with
    |none=>
     refine a9 (λhh=>absurd hh (by simp[bu])) (λ_=>?_);refine gu ?_;refine⟨⟨_,_,rfl⟩,s1,xs,kI,?_⟩;have:nK c sh (aN (i,j))=none:=by unfold nK;split;rfl;exact e
     rw[mT,this,List.append_nil];exact S1
    |some w=>
     refine a9 Kb (λhh=>absurd (by simp[bu]) hh);refine⟨_,rfl,_,rfl,aE A9,λp hp=>?_⟩;have s2:=Bl (av.upd (o:= .tup [.int (0+(i:Int)), .int (0+(j:Int))]) hp);have yT:=Fq (o:= .tup [.int (0+(i:Int)), .int (0+(j:Int))]) hp kI;have S2:=S1.cT (Ex (av.upd (o:= .tup [.int (0+(i:Int)), .int (0+(j:Int))]) hp));refine⟨_,rfl,p,s0,(0+(i:Int),0+(j:Int)),ws,sh,rfl,rfl,ae, .of (BY hs),P1.same s2,_,rfl,?_⟩;generalize upd H' p (.tup [.int (0+(i:Int)), .int (0+(j:Int))])=H2 at s2 yT S2;rw[ez];refine a9 Fw (λh1=>?_)
     ·have h1:aN (i,j)∉sh:=by simpa using h1
      refine⟨_,rfl, .inl ⟨rfl,_, .of yT⟩,_,rfl,_,rfl,_,rfl,aE A9,λt ht=>⟨b,xs,_,rfl,rfl,Bt ht yT,bb A3,⟨_,_,rfl⟩,(GP RK).eA hb,_,ae,?_⟩⟩;have e2:nK c sh (aN (i,j))=some w:=by unfold nK;rw[A6 h1];exact e
      rw[mT,e2,<-List.append_assoc];have S3:Ei (DT H2 t (.tup [.int (0+(i:Int)), .int (0+(j:Int)), .int w])) (xs++[.ref t]) ((fY c sh i++mT c sh i j)++[(aN (i,j),w)]):=(S2.cT (Ex RK)).snoc (by rw[<-ez];exact ae);exact S3.cT (Q0 (Bt ht yT))
     ·have h1:aN (i,j)∈sh:=by simpa using h1
      refine⟨⟨_,_,rfl⟩,s2,xs,yT,?_⟩;have:nK c sh (aN (i,j))=none:=by unfold nK;rw[A7 h1]
      rw[mT,this,List.append_nil];exact S2
   ·rintro σ H2 ⟨⟨u2,u3,rfl⟩,s2,I_,yT,S2⟩;rw[ly,Int.toNat_natCast]at S2;exact⟨⟨_,_,_,rfl⟩,s2,I_,yT,S2⟩
  ·rintro σ H2 ⟨⟨u1,u2,u3,rfl⟩,s2,I_,yT,S2⟩;rw[lx,Int.toNat_natCast]at S2;exact⟨_,rfl,q _ b _ s2 hb yT S2⟩
theorem m8:aK ["_law_case_here","_law_one","_law_other","_law_skipped","_law_put"] ["_law_case_here","_law_one","_law_other"] (au pj):=gC
include T in
theorem awI(F:jh K "_law_gap" "_law_gap" pj f fd):aZ P w K mg base (AU P) true 1 f fd ["_law_case_here","_law_one","_law_other"] CL:=by
 refine F.f' m8 Am gD
 ·obtain⟨a,t,u,c,f,g,m,l,us,q1,q2,rfl,_⟩:=h;rfl
 ·obtain⟨a,t,u,c,x1,x2,m,l,us,q1,q2,rfl,C1,ho,hi,h1,h2,q⟩:=h;refine⟨_,(AS (AZ (3) m8.nd auD) (AS (AZ (4) m8.nd auD) (A8 (Az (CY (VU Bg) (VU BP)))))),?_⟩;have jv:=C1.ca;have wK:=C1.nu;refine⟨_,rfl,u,_,0,_,rfl,rfl, .of h2,AI (j:=0),_,rfl,t,_,0,_,rfl,rfl, .of h1,AI (j:=0),_,_,rfl,rfl,_,_,rfl,rfl,?_⟩;refine⟨_,rfl,u,_,1,_,rfl,rfl, .of h2,AI (j:=1),_,rfl,t,_,1,_,rfl,rfl, .of h1,AI (j:=1),_,_,rfl,rfl,_,_,rfl,rfl,?_⟩;exact⟨_,rfl,a,_,2,_,rfl,rfl, .of jv,AI (j:=2),m,_,1,_,rfl,rfl, .of wK,AI (j:=1),_,rfl,_,_,rfl,rfl, .inl ⟨by lia,by lia⟩,_,rfl,a,_,2,_,rfl,rfl, .of jv,AI (j:=2),m,_,2,_,rfl,rfl, .of wK,AI (j:=2),_,rfl,_,_,rfl,rfl, .inl ⟨by lia,by lia⟩,_,_,rfl,rfl,q⟩
variable(hJ:bI P w K mg base true 3 "_law_finding" ["_law_found"] (ve aA))
variable(iL:bI P w K mg base true 2 "_law_is_way" ["_law_case_here","_law_way"] uK)
variable(jw:bI P w K mg base true 2 "_law_worth" ["_law_case_here","_law_way"] rK)
variable(cG:bI P w K mg base true 2 "_law_spots" ["_law_case_here","_law_shut"] vc)
theorem cN:aK ["_law_case_here","_law_told","_law_held","_law_one","_law_pair_here","_law_i","_law_j","_law_gain"] ["_law_case_here","_law_told"] (au iG):=gC
include T Fc hJ iL jw cG in
theorem atG(F:jh K "_law_anchor" "_law_anchor" iG f fd):aZ P w K mg base (AU P) true 4 f fd ["_law_case_here","_law_told"] (rW aA):=by
 refine F.f' cN Am gD
 ·obtain⟨a,t,c,f,g,m,l,us,ws,es,rfl,_⟩:=h;rfl
 ·obtain⟨b,t,c,x1,x2,m,l,us,vs,es,rfl,C3,ok,ht,FL,TD,q⟩:=h;have hu:=hr.units;have hu:(Bc (Dj "_law_anchor" (au iG))).units+1<cLine:=by lia
  have US:=ok.x;have UT:=ok.y;have Zi:=FL.1;refine⟨_,(AQ (AZ (2) cN.nd kP) (AQ (Ir (Af (3) cN.nd) (AQ (CJ (CO (Cg (Cv (Bn (vS hJ))) (Cg (Cv (Bn (Α iL))) (EL (Fg (Df Bg) (G9 ai))))))) (AQ (CJ (Cb Ae (Α jw) (Df Bg))) (AQ (zR (AQ (CJ (Bx (qI BP (pv 2)))) (A8 (ZZ Bm (pv 4) dF)))) (A8 (zR (A8 (CJ (@aS _ _ _ _ _ _ _ _ (abm K hu) (pv 4) (Df Bg) (by with_unfolding_all rfl)))))))))) (m_ (DB (E7 (BK cG (Ff (AB qL)))) (Kt (Bs (Af (5) cN.nd) (Bs (Af (6) cN.nd) (DJ (Af (7) cN.nd))))) (A8 (CJ (CO (Ht (Cb Dy EM (G9 ai)) (J8 (Bx (aoV (CU (HQ (AB Ca))) (pv 2)))))))))))),?_⟩;refine⟨λσ H4=>∃d,σ=[sR b,sR t,sR d,none,none,none,none,none]/\av H H4/\H d=none/\H4 d=some (.dT []),λd hd=>⟨d,rfl,Aa hd,hd,ae⟩,?_⟩;rintro σ H4 ⟨D,rfl,s4,Ld,hD⟩;refine⟨λσ H5=>(∃u1 u2,σ=[sR b,sR t,sR D,u1,u2,none,none,none])/\av H H5/\∃kvs,H5 D=some (.dT kvs)/\oH kvs (Je es.length),?_,?_⟩
  ·refine⟨_,rfl,t,rfl,⟨_, .of (Cu ht)⟩,?_⟩;refine br (xs:=vs) (λk σ H5=>(∃u1 u2,σ=[sR b,sR t,sR D,u1,u2,none,none,none])/\av H H5/\∃kvs,H5 D=some (.dT kvs)/\kvs.length<=(Je k).length/\oH kvs (Je k)) ⟨⟨_,_,rfl⟩,s4,[],hD,Nat.zero_le _,λp=>by simp[uw,mU]⟩ ?_ ?_ ?_
   ·rintro k σ H5 _ ⟨_,s5,_⟩;exact .of (CV ht)
   ·rintro k v σ H5 hv ⟨⟨u1,u2,rfl⟩,s5,kvs,A_,WE,P8⟩;have hk:k<es.length:=by rw[<-Zi];exact(AM hv).1
    have ek:es[k]?=some es[k]:=by simp[hk]
    generalize es[k]=d at ek;obtain⟨y,dy,wy,il,pr,mC,iC,e1,F3⟩:=R7 d;rw[hv]at e1;cases e1;have mD:=TD.mD d (B7 ek);have FF:∀{H'},av H H'->xV Tp H' aA y d dy wy il pr mC iC:=λ{H'} s'=>F3.keep (λb o _ e=>s' b o e) (Ex s') λ_ h=>h
    have iw:=ahB mD.way;have nd:=rT mD.uO;have pl:=TD.aeh ok (k+1);rw[acX ek,List.length_append]at pl;have wl:d.way.length<=2500:=by
     have h6:=len_sub d.way d.pairs (mD.way.up.imp λ{a b} h e=>by
      rw[e]at h;have:=h.1
      lia) mD.sub
     lia
    refine⟨λσ H6=>σ=[sR b,sR t,sR D,sR y,u2,none,none,none]/\av H5 H6,?_,?_⟩
    ·have F:=FF s5;refine⟨_,rfl,y,_,d,dy,wy,il,pr,mC,iC,rfl,F,by rw[mD.row,Ej],mD.way.ne,λH6 s6=>⟨_,rfl,?_⟩⟩;refine gu ?_;have F:=FF lI;refine⟨_,rfl,_,rfl,y,aA,dy,_,_,rfl,F.ob,Fc.cl,Fc.way,LB pr,b,wy,c,x1,x2,m,l,us,mC,d.way,rfl,K_ lI,F.hw,F.pw,by lia,λH7 s7=>⟨_,rfl,?_⟩⟩;rw[iw];refine gu ?_;have Xq:=LF s7;have F:=FF (HY Xq);have C7:=K_ (HY Xq);have jv:=C7.ca;refine⟨_,rfl,y,aA,dy,_,_,rfl,F.ob,Fc.cl,Fc.worth,JW d.worth,_,rfl,b,_,2,_,rfl,rfl, .of jv,AI (j:=2),m,_,3,_,rfl,rfl, .of C7.nu,AI (j:=3),_,_,rfl,rfl,_,rfl,?_⟩;have:=mD.least;exact a9 (λhh=>BO hh (by simp;lia)) (λ_=>⟨rfl,Xq⟩)
    rintro σ H6 ⟨rfl,s6⟩;have s7:=HY s6;have P0:=EW A_;have F:=FF s7;refine⟨λσ H7=>σ=[sR b,sR t,sR D,sR y,u2,none,none,none]/\H7=H6,?_,?_⟩
    ·refine⟨_,rfl,_,rfl,y,aA,dy,_,_,rfl,F.ob,Fc.cl,Fc.way,LB pr,b,wy,c,x1,x2,m,l,us,mC,d.way,rfl,K_ s7,ok.num,F.hw,F.pw,by lia,iw,_,rfl,y,aA,dy,_,_,rfl,F.ob,Fc.cl,Fc.worth,JW d.worth,rfl,_,rfl,?_⟩;rw[(agx iw).2,mD.worth];exact vO N7
    rintro σ H7 ⟨rfl,rfl⟩;refine⟨λσ H8=>(∃u3,σ=[sR b,sR t,sR D,sR y,u3,none,none,none])/\av H H8/\∃kvs,H8 D=some (.dT kvs)/\kvs.length<=(Je (k+1)).length/\oH kvs (Je (k+1)),?_,?_⟩
    ·refine⟨_,rfl,y,aA,dy,_,_,rfl,F.ob,Fc.cl,Fc.pairs,VP pr,pr,rfl,⟨_, .of F.hp⟩,?_⟩;refine br (xs:=iC) (λi σ H8=>(∃u3,σ=[sR b,sR t,sR D,sR y,u3,none,none,none])/\av H H8/\∃kvs,H8 D=some (.dT kvs)/\kvs.length<=(Je k).length+i/\oH kvs (mU es k++d.pairs.take i)) ⟨⟨_,rfl⟩,s7,kvs,P0,by lia,by simpa using P8⟩ ?_ ?_ ?_
     ·rintro i σ H8 _ ⟨_,s8,_⟩;exact .of (FF s8).hp
     ·rintro i v σ H8 hv ⟨⟨u,rfl⟩,s8,Lr,P9,SW,O6⟩;have hi:i<d.pairs.length:=by rw[<-F3.pp.1];exact(AM hv).1
      have ei:d.pairs[i]?=some d.pairs[i]:=by simp[hi]
      generalize d.pairs[i]=g at ei;obtain⟨tt,g1,g2⟩:=F3.pp.2 i g ei;rw[hv]at g1;cases g1;have hn:g∉mU es k++d.pairs.take i:=λz=>(K2 z).elim (TD.avH ek dG) (atb nd ei)
      refine⟨λσ H9=>σ=[sR b,sR t,sR D,sR y,sR tt,none,none,none]/\H9=H8,?_,?_⟩
      ·refine⟨_,rfl,_,rfl,D,_,rfl, .t (k:=bf g) P9 (Dm g2),_,rfl,?_⟩;rw[O6];exact vO (λhh=>Jj (by simpa using hh))
      rintro σ H9 ⟨rfl,rfl⟩;refine⟨_,rfl,_,rfl,D,_,rfl, .t (k:=bf g) P9 (Dm g2) (bb A3),⟨_,rfl⟩,s8.eA Ld,_,ae,RJ A3,?_⟩;have:=afV O6 g (.bl true);rw[List.append_assoc]at this;rw[List.take_succ,ei];exact this
     ·rintro σ H8 ⟨Ls,s8,Lr,P9,SW,O6⟩;rw[F3.pp.1]at SW;rw[F3.pp.1,List.take_length]at O6;rw[acX ek];exact⟨Ls,s8,Lr,P9,by rw[List.length_append];exact SW,O6⟩
    rintro σ H8 ⟨⟨u4,rfl⟩,s8,Lr,P9,SW,O6⟩;have F:=FF s8;refine⟨_,rfl,y,aA,dy,_,_,rfl,F.ob,Fc.cl,Fc.way,LB pr,wy,rfl,⟨_, .of F.hw⟩,?_⟩;refine br (xs:=mC) (λi σ H9=>(∃u3,σ=[sR b,sR t,sR D,sR y,u3,none,none,none])/\H9=H8) ⟨⟨_,rfl⟩,rfl⟩ ?_ ?_ ?_
    ·rintro i σ H9 _ ⟨_,rfl⟩;exact .of F.hw
    ·rintro i v σ H9 hv ⟨⟨u,rfl⟩,rfl⟩;have hi:i<d.way.length:=by rw[<-F.pw.1];exact(AM hv).1
     have ei:d.way[i]?=some d.way[i]:=by simp[hi]
     generalize d.way[i]=g at ei;obtain⟨tt,g1,g2⟩:=F.pw.2 i g ei;rw[hv]at g1;cases g1;refine⟨_,rfl,_,rfl,y,aA,dy,_,_,rfl,F.ob,Fc.cl,Fc.pairs,VP pr,tt,pr,g,iC,d.pairs,rfl,rfl,g2, .of F.hp,F.pp,_,rfl,?_⟩;have:=mD.sub g dG;exact a9 (λhh=>BO hh (by simp[this])) (λ_=>⟨⟨_,rfl⟩,rfl⟩)
    ·rintro σ H9 ⟨⟨u,rfl⟩,rfl⟩;exact⟨⟨_,_,rfl⟩,s8,Lr,P9,SW,O6⟩
   ·rintro σ H5 ⟨Ls,s5,kvs,A_,_,P8⟩;rw[Zi]at P8;exact⟨Ls,s5,kvs,A_,P8⟩
  rintro σ H5 ⟨⟨u1,u2,rfl⟩,s5,kvs,A_,P8⟩;refine⟨λσ H4=>av H H4,?_,λσ H4 s4=>E8 s4⟩;refine⟨_,rfl,aE A9,λe he=>?_⟩;have s6:=HY (U1 he);refine⟨b,e,c,x1,x2,m,l,us,[],[],rfl,K_ s6,ae, .nil,by lia,by lia,λH7 r ws s7 r6 h7 S7=>⟨r,rfl,⟨_, .of h7⟩,?_⟩⟩;have Zj:=LF s7;have P0:=GK (Fq (o:= .lst []) he A_);refine br (xs:=ws) (λk σ H8=>(∃v1 v2 v3,σ=[sR b,sR t,sR D,u1,u2,v1,v2,v3])/\av H7 H8) ⟨⟨_,_,_,rfl⟩, .refl _⟩ ?_ ?_ (λ_ _ ⟨_,s8⟩=>Zj.trans s8)
  ·rintro k σ H8 _ ⟨_,s8⟩;exact .of (Dm h7)
  ·rintro k v σ H8 hv ⟨⟨v1,v2,v3,rfl⟩,s8⟩;have hk:k<(VX c).length:=by rw[<-S7.1];exact(AM hv).1
   have ek:(VX c)[k]?=some (VX c)[k]:=by simp[hk]
   generalize (VX c)[k]=x at ek;obtain⟨tt,k1,k2⟩:=S7.2 k x ek;rw[hv]at k1;cases k1;have PL:=nW (B7 ek);have C8:=K_ (Zj.trans s8);have jv:=C8.ca;refine⟨tt,_,rfl, .of (Dm k2),rfl,_,_,rfl,_,_,rfl,_,_,rfl,rfl,?_⟩;refine⟨_,rfl,_,rfl,b,_,2,_,rfl,rfl, .of jv,AI (j:=2),m,_,3,_,rfl,rfl, .of C8.nu,AI (j:=3),_,_,rfl,rfl,_,rfl,?_⟩;refine a9 Fw (λ_=>?_)
   ·have h1:c.least<=x.2:=by simpa using h1
    refine⟨_,rfl,_,rfl,aE A9,λp hp=>⟨_,rfl,D,_,rfl, .t (k:=bf x.1) (Bt hp (Dm P0)) ae,_,rfl,?_⟩⟩;rw[P8];obtain⟨d,hd,hq⟩:=TD.pair PL h1;refine a9 (λhh=>BO hh (by simp;exact avg hd hq)) (λ_=>?_);exact⟨⟨_,_,_,rfl⟩,yl Of⟩
   ·refine gu ?_;exact⟨⟨_,_,_,rfl⟩,s8⟩
variable(n8:bI P w K mg base true 8 "compare" ["first","second","terms"] (yU aQ aA nZ))
variable(cH:bI P w K mg base true 7 "_law_terms" ["_law_case_here"] (rH aQ))
theorem arS:aK ["_law_case_here"] ["_law_case_here"] (au lW):=gC
include T n8 cH in
theorem ajb(F:jh K "_law_asked" "_law_asked" lW f fd):aZ P w K mg base (AU P) true 9 f fd ["_law_case_here"] (yX aA):=by
 refine F.f' arS Am gD
 ·obtain⟨a,c,f,g,m,l,us,most,rfl,_⟩:=h;rfl
 ·obtain⟨a,c,x1,x2,m,l,us,most,rfl,C1,ok,hm,q⟩:=h;refine⟨_,(A8 (Az (BK n8 (Ao l6 (Ao l6 (AB (N6 cH))))))),?_⟩;have jv:=C1.ca;refine⟨_,rfl,a,_,0,_,rfl,rfl, .of jv,AI (j:=0),x1,_,rfl, .inl (.of C1.fi),λy1 BI=>?_⟩;have s1:=Ew (o:= .lst ((cW c).xs.map V.str)) BI;have CZ:=Bh jv;refine⟨_,rfl,a,_,1,_,rfl,rfl, .of CZ,AI (j:=1),x2,_,rfl, .inl (.of (Bh C1.se)),λy2 wk=>?_⟩;have s2:=Bl (Ew (o:= .lst ((cW c).ys.map V.str)) wk);refine⟨_,rfl,a,cW c,x1,x2,m,l,us,most,rfl,Jd s2,ok,λH3 t s3 TF=>?_⟩;have OZ:=GP s3;have US:=ok.x;have UT:=ok.y;refine⟨y1,y2,t,cW c,rfl,Dd (Bt wk ae),Dd ae,TF,by lia,by lia,λes TD H4 r vs s4 hr h4 FL=>?_,λds f2 RC hl H4 s4=>?_⟩
  ·exact q es TD H4 r vs (OZ.trans s4) (OZ.free hr) h4 (FL.keep RH (λ_ _ h=>h) λb hb=>OZ.free hb)
  ·have:=akB ok RC
   lia
variable(l5:bI P w K mg base true 1 "_law_gap" ["_law_case_here","_law_one","_law_other"] CL)
theorem cZ:aK ["_law_case_here","_law_spots_here","_law_ends","_law_most","_law_i","_law_j","_law_gain","_law_k","_law_l","_law_other","_law_price"] ["_law_case_here","_law_spots_here","_law_ends","_law_most"] (au lX):=gC
include T bj l5 in
theorem aeT(F:jh K "_law_shows" "_law_shows" lX f fd):aZ P w K mg base (AU P) true 2 f fd ["_law_case_here","_law_spots_here","_law_ends","_law_most"] vf:=by
 refine F.f' cZ Am gD
 ·obtain⟨a,s0,e,mo,c,x1,x2,m,l,us,ws,es,sh,rfl,_⟩:=h;rfl
 ·obtain⟨a,s0,e,mo,c,x1,x2,m,l,us,ws,es,sh,rfl,C1,ho,hi,hs,S0,he,TE,top,q⟩:=h;refine⟨_,(m_ (Ir (Kt (Bs (Af (4) cZ.nd) (Bs (Af (5) cZ.nd) (DJ (Af (6) cZ.nd))))) (AQ (CJ (CO (Cg (Cv (Bn (BK bj (AB (x6 DK))))) (Cg (vB Ca) (EL (Cb oC (x6 DK) (pv 3))))))) (A8 (Ir (Kt (Bs (Af (7) cZ.nd) (Bs (Af (8) cZ.nd) (DJ (Af (9) cZ.nd))))) (AQ (AZ (10) cZ.nd (BK l5 (Ff (Ao (CU (Ao EM (AB G6))) (AB (CU (V6 BP))))))) (A8 (CJ (CO (Ht (Fg EM (pv 4)) (Ht (Fg G6 (pv 5)) (J8 (vB (FV (CY Ca (Bd (QM EM) (pv 8))) (pv 10))))))))))))))),?_⟩;have wl:=S0.1;have ent:∀{z:Pr×Int},z∈fY c sh c.xs.length->∃i j E ea,z.1=aN (i,j)/\lf Ez z.1=some z.2/\A4 Ez c.out c.into z.1 E/\(Nk V.ref)[i]?=some (.ref ea)/\H ea=some (.lst (Kz (n9 c sh i)))/\(Kz (n9 c sh i))[j]?=some (.int E):=λ{z} hz=>by
   obtain⟨i,j,E,e1,h1,h2,h3,h4,h5⟩:=uj (nW hz);obtain⟨ea,_,g1,g2⟩:=TE.at h1;exact⟨i,j,E,ea,e1,h3,h5,g1,g2,by rw[bN h2,h4];rfl⟩
  refine⟨λσ H1=>(∃u4 u5 u6 u7 u8 u9 Lu,σ=[sR a,sR s0,sR e,sI mo,u4,u5,u6,u7,u8,u9,Lu])/\av H H1,?_,?_⟩
  ·refine⟨_,rfl,s0,rfl,⟨_, .of hs⟩,?_⟩;refine br (xs:=ws) (λi σ H1=>(∃u4 u5 u6 u7 u8 u9 Lu,σ=[sR a,sR s0,sR e,sI mo,u4,u5,u6,u7,u8,u9,Lu])/\av H H1) ⟨⟨_,_,_,_,_,_,_,rfl⟩, .refl _⟩ ?_ ?_ ?_
   ·rintro i σ H1 _ ⟨_,s1⟩;exact .of (Bh hs)
   ·rintro i v σ H1 hv ⟨⟨u4,u5,u6,u7,u8,u9,Lu,rfl⟩,s1⟩;have BB:i<(Hv sh).length:=by rw[<-wl];exact(AM hv).1
    obtain⟨z,et⟩:∃z,(Hv sh)[i]?=some z:=⟨_,Bu BB⟩
    obtain⟨tt,t1,t2⟩:=S0.2 i z et;rw[hv]at t1;cases t1;obtain⟨zi,zj,E,ea,ez,hz,hE,g1,g2,g3⟩:=ent (B7 et);obtain⟨zq,zw⟩:=z;have ez:zq=aN (zi,zj):=ez;subst ez;have hE1:=hE.ge hz;have hE2:E<=mo:=by
     obtain⟨⟨ps,p1,_,p3⟩,_⟩:=hE;rw[<-p3];exact top ps p1
    refine⟨tt,_,rfl, .of (Bh t2),rfl,_,_,rfl,_,_,rfl,_,_,rfl,rfl,?_⟩;refine⟨λσ H2=>σ=[sR a,sR s0,sR e,sI mo,sI (zi:Int),sI (zj:Int),sI zw,u7,u8,u9,Lu]/\H2=H1,?_,?_⟩
    ·refine⟨_,rfl,_,rfl,e,_,_,_,rfl,rfl, .of QX,ar g1,_,rfl,ea,_,_,_,rfl,rfl, .of ZO,ar g3,_,rfl,_,rfl,?_⟩;refine gu ?_;refine⟨_,rfl,_,rfl,e,_,_,_,rfl,rfl, .of QX,ar g1,_,rfl,ea,_,_,_,rfl,rfl, .of ZO,ar g3,_,rfl,_,_,rfl,rfl,_,rfl,?_⟩;refine a9 sk (λ_=>?_);refine⟨_,rfl,_,rfl,e,_,_,_,rfl,rfl, .of QX,ar g1,_,rfl,ea,_,_,_,rfl,rfl, .of ZO,ar g3,_,rfl,_,_,rfl,rfl,_,rfl,?_⟩;refine a9 sk (λ_=>?_);exact⟨rfl,rfl⟩
    rintro σ H2 ⟨rfl,rfl⟩;refine⟨_,rfl,s0,rfl,⟨_, .of (Bh hs)⟩,?_⟩;refine br (xs:=ws) (λj σ H3=>(∃u7 u8 u9 Lu,σ=[sR a,sR s0,sR e,sI mo,sI (zi:Int),sI (zj:Int),sI zw,u7,u8,u9,Lu])/\av H H3) ⟨⟨_,_,_,_,rfl⟩,s1⟩ ?_ ?_ ?_
    ·rintro j σ H3 _ ⟨_,s3⟩;exact .of (Dd hs)
    ·rintro j v σ H3 Jy ⟨⟨v7,v8,v9,v10,rfl⟩,s3⟩;have hj:j<(Hv sh).length:=by rw[<-wl];exact(AM Jy).1
     obtain⟨y,ey⟩:∃y,(Hv sh)[j]?=some y:=⟨_,Bu hj⟩
     obtain⟨ty,y1,y2⟩:=S0.2 j y ey;rw[Jy]at y1;cases y1;obtain⟨yi,yj,F,fa,ez,hy,hF,k1,k2,k3⟩:=ent (B7 ey);obtain⟨yq,yw⟩:=y;have ez:yq=aN (yi,yj):=ez;subst ez;refine⟨ty,_,rfl, .of (Dd y2),rfl,_,_,rfl,_,_,rfl,_,_,rfl,rfl,?_⟩;refine⟨λσ H4=>σ=[sR a,sR s0,sR e,sI mo,sI (zi:Int),sI (zj:Int),sI zw,sI (yi:Int),sI (yj:Int),sI yw,sI ((gp c.out c.into (aN (yi,yj)) (aN (zi,zj))))]/\av H H4,?_,?_⟩
     ·refine⟨_,rfl,_,rfl,_,rfl,aE A9,λp2 BX=>?_⟩;have t2:=Ew (o:= .tup [.int (yi:Int), .int (yj:Int)]) BX;refine⟨_,rfl,_,rfl,aE A9,λp3 RR=>?_⟩;have t3:=Vl (av.upd (o:= .tup [.int (zi:Int), .int (zj:Int)]) RR);exact⟨a,p2,p3,c,x1,x2,m,l,us,aN (yi,yj),aN (zi,zj),rfl,Jd (Ji t3),ho,hi,Bt RR ae,ae,rfl,Ji t3⟩
     rintro σ H4 ⟨rfl,s4⟩;refine⟨_,rfl,_,rfl,_,_,rfl,rfl,_,rfl,?_⟩;refine a9 Fw (λh1=>?_)
     rotate_left
     ·refine gu ?_;exact⟨⟨_,_,_,_,rfl⟩,s4⟩
     refine⟨_,rfl,_,rfl,_,_,rfl,rfl,_,rfl,?_⟩;refine a9 He (λh2=>?_)
     rotate_left
     ·refine gu ?_;exact⟨⟨_,_,_,_,rfl⟩,s4⟩
     have st:we (aN (yi,yj)) (aN (zi,zj)):=⟨Ie h1,Ie h2⟩
     have nx:=hE.next hF hz st;refine⟨_,rfl,_,rfl,e,_,_,_,rfl,rfl, .of (Cu he),ar g1,_,rfl,ea,_,_,_,rfl,rfl, .of (Cu g2),ar g3,_,rfl,_,rfl,_,rfl,e,_,_,_,rfl,rfl, .of (Cu he),ar k1,_,rfl,fa,_,_,_,rfl,rfl, .of (Cu k2),ar k3,_,_,rfl,rfl,_,rfl,_,_,rfl,rfl,_,_,rfl,rfl,_,rfl,?_⟩;refine a9 sk (λ_=>?_);exact⟨⟨_,_,_,_,rfl⟩,s4⟩
    ·rintro σ H3 ⟨⟨v7,v8,v9,v10,rfl⟩,s3⟩;exact⟨⟨_,_,_,_,_,_,_,rfl⟩,s3⟩
   ·rintro σ H1 ⟨⟨u4,u5,u6,u7,u8,u9,Lu,rfl⟩,s1⟩;exact⟨⟨_,_,_,_,_,_,_,rfl⟩,s1⟩
  rintro σ H1 ⟨⟨u4,u5,u6,u7,u8,u9,Lu,rfl⟩,s1⟩;exact q H1 s1
variable(du:oX P w K mg base true 6 "best_ending" ["first","second","terms","taken"] [] (jj aQ n9))
variable(gk:oX P w K mg base true 7 "best_through" ["first","second","terms","taken"] [] (jj aQ me))
variable(eZ:bI P w K mg base true 2 "_law_shows" ["_law_case_here","_law_spots_here","_law_ends","_law_most"] vf)
theorem aT:aK ["_law_case_here","_law_told","_law_worth_here","_law_terms_here","_law_shut","_law_mine","_law_one","_law_ends","_law_over","_law_spots_here","_law_i","_law_j","_law_gain"] ["_law_case_here","_law_told","_law_worth_here"] (au cw):=gC
include T Fc bj cG cH du gk eZ in
theorem asd(F:jh K "_law_round_shown" "_law_round_shown" cw f fd):aZ P w K mg base (AU P) true 9 f fd ["_law_case_here","_law_told","_law_worth_here"] (rX aA):=by
 refine F.f' aT Am gD
 ·obtain⟨a,t,W,c,x1,x2,m,l,us,ws,es,d,rfl,_⟩:=h;rfl
 ·obtain⟨a,t,W,c,x1,x2,m,l,us,ws,es,d,rfl,C1,ok,ht,FL,TD,hd,UU,q⟩:=h;have hu:=hr.units;have Jv:(Bc zM).units<cLine:=by lia
  have hu:(Bc zM).units+1<cLine:=by lia
  have US:=ok.x;have UT:=ok.y;have FZ:=FL.1;have C0:=λP k=>A5 ok TD P k
  refine⟨_,(AQ (AZ (3) aT.nd (N6 cH)) (AQ (FX (4) aT.nd) (AQ (FX (5) aT.nd) (AQ (zI (AQ (Bp (mj oC Bm) (A8 (AZ (4) aT.nd (Cy B4 BP (Df Ca))))) (A8 (Bp awV (A8 (AZ (5) aT.nd (Cy B4 DK (Df Ca)))))))) (AQ (JR (7) aT.nd (n_ du ash)) (AQ (AZ (8) aT.nd (n_ gk ash)) (AQ (AZ (9) aT.nd (BK cG (Ff Ot))) (AQ (CJ (Cv (Bn (BK eZ (Ff (Ao Kv (Fv EM))))))) (AQ (DB (E7 Kv) (Kt (Bs (Af (10) aT.nd) (Bs (Af (11) aT.nd) (DJ (Af (12) aT.nd))))) (A8 (CJ (CO (Cg (Cv (Bn (BK bj (AB atd)))) (EL (Cb Ae (Fs iP atd (pv 2)) (@aah _ _ _ _ _ _ _ _ (afe K hu) (CU (Ao yp (AB (pv 11)))) (pv 5) (by with_unfolding_all rfl))))))))) (m_ (zI (A8 (CJ (CO (Ht awV (J8 (mj (ahJ K Jv) (JF (show bx ["_law_case_here","_law_told","_law_worth_here","_law_terms_here","_law_shut","_law_mine","_law_one","_law_ends","_law_over","_law_spots_here","_law_i","_law_j","_law_gain"] (au cw) _ ["_law_i","_law_j"] [7] ["_law_ends"]from FA) (E7 (Df Ca)) (λ_ _ _ _ _=>(Ey (Bs (Af (0) (show(["_law_i","_law_j","_law_ends"]:List Str).Nodup by decide+kernel)) (DJ (Af (1) (show(["_law_i","_law_j","_law_ends"]:List Str).Nodup by decide+kernel)))))) (λ_ _ _ _ _=>(Bd (QM Bv) (pv 1))))))))))))))))))))),?_⟩;refine⟨λσ H1=>∃tm,σ=[sR a,sR t,sI W,sR tm,none,none,none,none,none,none,none,none,none]/\av H H1/\uI H1 aQ tm c,?_,?_⟩
  ·exact⟨_,rfl,a,c,x1,x2,m,l,us,30,rfl,C1,ok,λH1 tm s1 TF=>⟨tm,rfl,s1,TF⟩⟩
  rintro σ H1 ⟨tm,rfl,s1,TF⟩;refine⟨λσ H2=>∃sh,σ=[sR a,sR t,sI W,sR tm,sR sh,none,none,none,none,none,none,none,none]/\av H1 H2/\H2 sh=some (.lst []),⟨aE A9,λsh h=>⟨sh,rfl,Aa h,ae⟩⟩,?_⟩;rintro σ H2 ⟨UW,rfl,s2,O7⟩;refine⟨λσ H3=>∃mi,σ=[sR a,sR t,sI W,sR tm,sR UW,sR mi,none,none,none,none,none,none,none]/\av H2 H3/\H3 mi=some (.lst []),⟨aE A9,λmi h=>⟨mi,rfl,Aa h,ae⟩⟩,?_⟩;rintro σ H3 ⟨mi0,rfl,s3,aeb⟩;have UX:=Bl Vi;refine⟨λσ H4=>∃(sh mi:Addr)(mn Eo:List V),(∃u,σ=[sR a,sR t,sI W,sR tm,sR sh,sR mi,u,none,none,none,none,none,none])/\av H3 H4/\H4 sh=some (.lst mn)/\gw H4 mn (lN (λe=>decide (e.worth>W)) es)/\H4 mi=some (.lst Eo)/\gw H4 Eo (zo es),?_,?_⟩
  ·refine⟨_,rfl,t,rfl,⟨_, .of (UX _ _ ht)⟩,?_⟩;refine br (xs:=ws) (λk σ H4=>∃(sh mi:Addr)(mn Eo:List V),(∃u,σ=[sR a,sR t,sI W,sR tm,sR sh,sR mi,u,none,none,none,none,none,none])/\av H3 H4/\H4 sh=some (.lst mn)/\gw H4 mn (lN (λe=>decide (e.worth>W)) (K7 k))/\H4 mi=some (.lst Eo)/\gw H4 Eo (zo (K7 k))) ⟨UW,mi0,[],[],⟨_,rfl⟩, .refl _,Dd O7, .nil,aeb, .nil⟩ ?_ ?_ ?_
   ·rintro k σ H4 _ ⟨_,_,_,_,_,s4,_⟩;exact .of (Cu (UX _ _ ht))
   ·rintro k v σ H4 hv ⟨sh,mi,mn,Eo,⟨u,rfl⟩,s4,v_,PS,P_,PM⟩;have hk:k<es.length:=by rw[<-FZ];exact(AM hv).1
    obtain⟨e,ek⟩:∃e,es[k]?=some e:=⟨_,Bu hk⟩
    obtain⟨y,dy,wy,il,pr,mC,iC,e1,F0⟩:=R7 e;rw[hv]at e1;cases e1;have SX:=UX.trans s4;have F:=F0.keep (P':=λ_=>True) (λb o _ e=>SX b o e) (Ex SX) λ_ h=>h
    have et:es.take (k+1)=es.take k++[e]:=by rw[List.take_succ,ek];rfl
    have n1:=C0 (λe=>decide (e.worth>W)) (k+1);have n2:=amh (k+1);rw[et]at n1 n2;have Xs:=PS.1;have pml:=PM.1;have pyl:=F.pp.1;refine⟨λσ H5=>∃(sh:Addr)(mn:List V),σ=[sR a,sR t,sI W,sR tm,sR sh,sR mi,sR y,none,none,none,none,none,none]/\av H4 H5/\H5 sh=some (.lst mn)/\gw H5 mn (lN (λe=>decide (e.worth>W)) (K7 (k+1))),?_,?_⟩
    ·refine⟨_,rfl,y,aA,dy,_,_,rfl,F.ob,Fc.cl,Fc.worth,JW e.worth,_,rfl,_,_,rfl,rfl,_,rfl,?_⟩;rw[iu]at n1;rw[et,iu];refine a9 Dg (λhh=>?_)
     ·rw[A7 hh]at n1⊢;rw[List.length_append]at n1;refine⟨_,rfl,_,rfl,y,aA,dy,_,_,rfl,F.ob,Fc.cl,Fc.pairs,iT e.worth wy il pr,sh,pr,mn,iC,rfl,rfl,v_,F.hp,aE A3,λs2 By=>?_⟩;exact⟨s2,mn++iC,rfl,Aa By,ae,(PS.append F.pp).same mw⟩
     ·rw[A6 hh];exact⟨sh,mn,rfl, .refl _,v_,PS⟩
    rintro σ H5 ⟨UY,Lv,rfl,s5,Lw,UZ⟩;have F5:=F.keep (P':=λ_=>True) (λb o _ e=>s5 b o e) (Ex s5) λ_ h=>h
    refine⟨_,rfl,y,aA,dy,_,_,rfl,F5.ob,Fc.cl,Fc.worth,JW e.worth,_,rfl,rfl,_,rfl,?_⟩;rw[iu]at n2;refine a9 Dg (λhh=>?_)
    ·have hh:decide (e.worth=W)=true:=by simpa using hh
     rw[A7 hh,List.length_append]at n2;refine⟨_,rfl,_,rfl,y,aA,dy,_,_,rfl,F5.ob,Fc.cl,Fc.pairs,iT e.worth wy il pr,mi,pr,Eo,iC,rfl,rfl,CV P_,F5.hp,aE A3,λm2 E_=>?_⟩;have s6:=Ew (o:= .lst (Eo++iC)) E_;refine⟨UY,m2,Lv,Eo++iC,⟨_,rfl⟩,J1 lI,EW Lw,UZ.same s6,ae,?_⟩;rw[et,iu,A7 hh];exact((PM.same s5).append F5.pp).same s6
    ·have hh:¬decide (e.worth=W)=true:=by simpa using hh
     refine⟨UY,mi,Lv,Eo,⟨_,rfl⟩,J1 s5,Lw,UZ,CV P_,?_⟩;rw[et,iu,A6 hh];exact PM.same s5
   ·rintro σ H4 ⟨sh,mi,mn,Eo,Ls,s4,v_,PS,P_,PM⟩;rw[FZ,List.take_length]at PS PM;exact⟨sh,mi,mn,Eo,Ls,s4,v_,PS,P_,PM⟩
  rintro σ H4 ⟨sh,mi,mn,Eo,⟨u,rfl⟩,s4,v_,PS,P_,PM⟩;have lS:=C0 (λe=>decide (e.worth>W)) es.length;have lM:=amh es.length;rw[List.take_length]at lS lM;generalize eS:lN (λe=>decide (e.worth>W)) es=S at PS lS;generalize eM:lN (λe=>decide (e.worth=W)) es=M at PM lM;have aaW:∀x,x∈S↔∃e∈es,d.worth<e.worth/\x∈e.pairs:=λx=>by
   rw[<-eS,vh,UU];simp only[decide_eq_true_eq]
  have apu:∀x,x∈M↔∃e∈es,e.worth=d.worth/\x∈e.pairs:=λx=>by
   rw[<-eM,vh,UU];simp only[decide_eq_true_eq]
  obtain⟨gs,d0,R,UQ,hM⟩:=TD.at hd aaW;rw[UU]at R;have Fu:∀x,x∈M↔f7 (dU c S) c.out c.into W x x:=λx=>by rw[apu,<-hM,R.Fu]
  have SX:=UX.trans s4;have C4:=Jd SX;have acH:=GX (GP i_);have Xs:=PS.1;refine⟨λσ H5=>∃(e:Addr)(as:List Addr),σ=[sR a,sR t,sI W,sR tm,sR sh,sR mi,u,sR e,none,none,none,none,none]/\av H4 H5/\H5 e=some (.lst Dt)/\fE H5 as (n9 c S) c.xs.length c.ys.length,?_,?_⟩
  ·have jv:=C4.ca;refine⟨_,rfl,a,_,0,_,rfl,rfl, .of jv,AI (j:=0),x1,_,rfl, .inl (.of C4.fi),λy1 BI=>?_⟩;have t1:=sJ BI;have CZ:=OB jv;refine⟨_,rfl,a,_,1,_,rfl,rfl, .of CZ,AI (j:=1),x2,_,rfl, .inl (.of (OB C4.se)),λy2 wk=>?_⟩;have t2:=t1.trans oK;refine⟨_,rfl,_,rfl,sh,_,rfl, .inl (.of (t2 _ _ v_)),λy3 Em=>?_⟩;have t3:=Vl rp;refine⟨y1,y2,tm, .ref y3,c,S,rfl,(Aa Em) _ _ ((Aa wk) _ _ ae),(Aa Em) _ _ ae,acH.keep t3, .inr ⟨y3,mn,rfl,ae,OC t3⟩,by lia,by lia,by lia,λH5 e s5 ⟨as,he,_,TE,_⟩=>⟨e,as,rfl,t3.trans s5,he,TE⟩⟩
  rintro σ H5 ⟨e,as,rfl,s5,he,TE⟩;refine⟨λσ H6=>∃(o:Addr)(os:List Addr),σ=[sR a,sR t,sI W,sR tm,sR sh,sR mi,u,sR e,sR o,none,none,none,none]/\av H5 H6/\H6 o=some (.lst (os.map V.ref))/\fE H6 os (me c S) c.xs.length c.ys.length,?_,?_⟩
  ·have C5:=C4.keep s5;have jv:=C5.ca;refine⟨_,rfl,a,_,0,_,rfl,rfl, .of jv,AI (j:=0),x1,_,rfl, .inl (.of C5.fi),λy1 BI=>?_⟩;have t1:=sJ BI;have CZ:=OB jv;refine⟨_,rfl,a,_,1,_,rfl,rfl, .of CZ,AI (j:=1),x2,_,rfl, .inl (.of (OB C5.se)),λy2 wk=>?_⟩;have t2:=t1.trans oK;refine⟨_,rfl,_,rfl,sh,_,rfl, .inl (.of (t2 _ _ (CV v_))),λy3 Em=>?_⟩;have t3:=Vl rp;refine⟨y1,y2,tm, .ref y3,c,S,rfl,(Aa Em) _ _ ((Aa wk) _ _ ae),(Aa Em) _ _ ae,(acH.keep s5).keep t3, .inr ⟨y3,mn,rfl,ae,(OC s5).same t3⟩,by lia,by lia,by lia,λH6 o s6 ⟨os,ho,_,TO,_⟩=>⟨o,os,rfl,t3.trans s6,ho,TO⟩⟩
  rintro σ H6 ⟨o,os,rfl,s6,ho,TO⟩;have U0:=HY s6;have acb:=EW he;have Zm:=TE.same s6;refine⟨λσ H7=>∃(sp:Addr)(ps:List V),σ=[sR a,sR t,sI W,sR tm,sR sh,sR mi,u,sR e,sR o,sR sp,none,none,none]/\av H6 H7/\H7 sp=some (.lst ps)/\Ei H7 ps (Hv S),?_,?_⟩
  ·exact⟨_,rfl,_,rfl,a,sh,c,x1,x2,m,l,us,mn,S,rfl,C4.keep U0,U0 _ _ v_,OC U0,by lia,by lia,λH7 r vs s7 _ h7 S7=>⟨r,vs,rfl,s7,h7,S7⟩⟩
  rintro σ H7 ⟨sp,ps,rfl,s7,DC,SP⟩;have Xv:=U0.trans s7;refine⟨λσ H8=>σ=[sR a,sR t,sI W,sR tm,sR sh,sR mi,u,sR e,sR o,sR sp,none,none,none]/\av H7 H8,?_,?_⟩
  ·refine⟨_,rfl,_,rfl,_,rfl,_,rfl,a,sp,e,W,c,x1,x2,m,l,us,ps,as,S,rfl,C4.keep Xv,ok.out,ok.into,DC,SP,GK acb,Zm.same s7,λws w=>R.top ws w,λH8 s8=>⟨_,rfl,?_⟩⟩;refine gu ?_;exact⟨rfl,s8⟩
  rintro σ H8 ⟨rfl,s8⟩;have s68:=Kr s8;have spl:=SP.1;refine⟨λσ H9=>(∃u1 u2 u3,σ=[sR a,sR t,sI W,sR tm,sR sh,sR mi,u,sR e,sR o,sR sp,u1,u2,u3])/\av H8 H9,?_,?_⟩
  ·refine⟨_,rfl,sp,rfl,⟨_, .of (Dm DC)⟩,?_⟩;refine br (xs:=ps) (λk σ H9=>(∃u1 u2 u3,σ=[sR a,sR t,sI W,sR tm,sR sh,sR mi,u,sR e,sR o,sR sp,u1,u2,u3])/\av H8 H9) ⟨⟨_,_,_,rfl⟩, .refl _⟩ ?_ ?_ ?_
   ·rintro k σ H9 _ ⟨_,s9⟩;exact .of (KG (Dm DC))
   ·rintro k v σ H9 hv ⟨⟨u1,u2,u3,rfl⟩,s9⟩;have hk:k<(Hv S).length:=by rw[<-spl];exact(AM hv).1
    obtain⟨z,et⟩:∃z,(Hv S)[k]?=some z:=⟨_,Bu hk⟩
    obtain⟨tt,t1,t2⟩:=SP.2 k z et;rw[hv]at t1;cases t1;have hz:=nW (B7 et);obtain⟨zi,zj,E,ez,h1,h2,_⟩:=uj hz;obtain⟨zq,zw⟩:=z;have ez:zq=aN (zi,zj):=ez;subst ez;obtain⟨X,hX,hXW⟩:=ahP R.top hz;obtain⟨oa,_,g1,g2⟩:=TO.at h1;have g3:(Kz (me c S zi))[zj]?=some (.int X):=by rw[bN h2,hX];rfl
    have anI:=s68.trans s9;have U2:=Xv.trans oJ;refine⟨tt,_,rfl, .of (KG (Dm t2)),rfl,_,_,rfl,_,_,rfl,_,_,rfl,rfl,?_⟩;refine⟨_,rfl,_,rfl,o,_,_,_,rfl,rfl, .of (YF ho),ar g1,_,rfl,oa,_,_,_,rfl,rfl, .of (YF g2),ar g3,_,rfl,_,rfl,?_⟩;refine gu ?_;refine⟨_,rfl,_,rfl,o,_,_,_,rfl,rfl, .of (YF ho),ar g1,_,rfl,oa,_,_,_,rfl,rfl, .of (YF g2),ar g3,_,rfl,rfl,_,rfl,_,rfl,aE A9,λp hp=>?_⟩;have t3:=av.upd (o:= .tup [.int (zi:Int), .int (zj:Int)]) hp;refine⟨_,rfl,p,mi,aN (zi,zj),Eo,M,rfl,rfl,ae, .of (t3 _ _ (U2 _ _ P_)),(PM.same U2).same t3,rfl,_,rfl,?_⟩;have eq:decide (V.int X=V.int W)=decide (aN (zi,zj)∈M):=by
     rw[decide_eq_decide,Fu,<-hXW];simp
    refine a9 Dg (λ_=>?_)
    ·rw[eq]at hh;exact Fm hh
    ·exact⟨⟨_,_,_,rfl⟩,s9.trans t3⟩
   ·rintro σ H9 ⟨⟨u1,u2,u3,rfl⟩,s9⟩;exact⟨⟨_,_,_,rfl⟩,s9⟩
  rintro σ H9 ⟨⟨u1,u2,u3,rfl⟩,s9⟩;have U2:=Xv.trans oJ;have U3:=SX.trans U2;have he9:=KG (Dm (GK acb));have TE9:=Zm.same (Kr oJ);refine⟨λσ Hb=>(∃v,σ=[sR a,sR t,sI W,sR tm,sR sh,sR mi,v,sR e,sR o,sR sp,u1,u2,u3])/\av H9 Hb,?_,?_⟩
  ·refine⟨_,rfl,t,rfl,⟨_, .of (U3 _ _ ht)⟩,?_⟩;refine br (xs:=ws) (λk σ Hb=>(∃v,σ=[sR a,sR t,sI W,sR tm,sR sh,sR mi,v,sR e,sR o,sR sp,u1,u2,u3])/\av H9 Hb) ⟨⟨_,rfl⟩, .refl _⟩ ?_ ?_ ?_
   ·rintro k σ Hb _ ⟨_,F1⟩;exact .of (F1 _ _ (U3 _ _ ht))
   ·rintro k v σ Hb hv ⟨⟨v6,rfl⟩,F1⟩;have hk:k<es.length:=by rw[<-FZ];exact(AM hv).1
    obtain⟨b,ek⟩:∃b,es[k]?=some b:=⟨_,Bu hk⟩
    obtain⟨y,dy,wy,il,pr,mC,iC,e1,F0⟩:=R7 b;rw[hv]at e1;cases e1;have Zn:=U3.trans F1;have F:=F0.keep (P':=λ_=>True) (λb o _ e=>Zn b o e) (Ex Zn) λ_ h=>h
    refine⟨_,rfl,y,aA,dy,_,_,rfl,F.ob,Fc.cl,Fc.worth,JW b.worth,_,rfl,rfl,_,rfl,?_⟩;refine a9 Dg (λhh=>?_)
    rotate_left
    ·refine gu ?_;exact⟨⟨_,rfl⟩,F1⟩
    have hh:b.worth=W:=by simpa using hh
    obtain⟨acx,d0',R',Ha,_⟩:=TD.at (B7 ek) (sh:=S) λx=>by rw[aaW,hh,UU]
    obtain⟨rl,rt⟩:=apY R'.top (R'.ok b Ha);have acV:=F.pw.1;have wyl:b.way.length<=900:=by
     have k:=(R'.ok b Ha).way;rw[hh]at k;have:=len_sub b.way M (k.1.up.imp λ{x y} h=>λ(e:x=y)=>by
      have:=h.1;rw[e]at this
      lia) λx hx=>(Fu x).mpr (.way _ k hx hx)
     lia
    refine⟨_,rfl,y,aA,dy,_,_,rfl,F.ob,Fc.cl,Fc.row,V1 b.worth,_,rfl,y,aA,dy,_,_,rfl,F.ob,Fc.cl,Fc.way,o8 b.worth wy il pr,wy,rfl,⟨_, .of F.hw⟩,λD hD=>?_⟩;refine jy (xs:=mC) (λj ys bK Pn=>(∃x1 x2,bK=[x1,x2,sR e])/\ys=(b.row.take j).map V.int/\Pn D=some (.lst ys)/\av Hb Pn) ⟨⟨_,_,rfl⟩,rfl,ae,Aa hD⟩ ?_ ?_ ?_
    ·rintro j ys bK Pn _ ⟨_,_,_,J9⟩;exact .of (J9 _ _ F.hw)
    ·rintro j v ys bK Pn Jy ⟨⟨x1',x2',rfl⟩,rfl,Lx,J9⟩;have hj:j<b.way.length:=by rw[<-acV];exact(AM Jy).1
     obtain⟨z,ez⟩:∃z,b.way[j]?=some z:=⟨_,Bu hj⟩
     obtain⟨tt,t1,t2⟩:=F.pw.2 j z ez;rw[Jy]at t1;cases t1;obtain⟨zi,zj,w,e2,PL,aoI,Xx⟩:=rt j z ez;subst e2;obtain⟨w',hw'⟩:=Hj PL;obtain⟨i',j',E,e3,h1,h2,_,hE,_⟩:=uj (c:=c) (sh:=S) (q:=aN (zi,zj)) (w:=w') (by rw[<-oZ];exact hw');have e4:zi=i':=by have:=(Hi e3).1;lia
     have e5:zj=j':=by have:=(Hi e3).2;lia
     subst e4 e5;have Xx:n9 c S zi zj=some w:=Xx;obtain⟨ea,_,g1,g2⟩:=TE9.at h1;have g3:(Kz (n9 c S zi))[zj]?=some (.int w):=by rw[bN h2,Xx];rfl
     have sx:=F1.trans J9;refine⟨tt,_,rfl, .of (J9 _ _ t2),rfl,_,_,rfl,_,_,rfl,rfl,?_⟩;refine qg ?_;refine⟨_,rfl,_,rfl,e,_,_,_,rfl,rfl, .of (sx _ _ he9),ar g1,_,rfl,ea,_,_,_,rfl,rfl, .of (sx _ _ g2),ar g3,Lx,bb (by rw[List.length_map,List.length_take];lia),⟨_,_,rfl⟩,?_,ae,J9.eA hD⟩;rw[List.take_succ,aoI];simp
    ·rintro ys bK Pn ⟨_,rfl,Lx,J9⟩;rw[acV,<-rl,List.take_length]at Lx;refine⟨il,D,_,_,_,rfl,rfl, .of (J9 _ _ F.hr), .of Lx,aps b.row,_,rfl,?_⟩;refine a9 (λhx=>Fm hx) (λ_=>?_);exact⟨⟨_,rfl⟩,F1.trans J9⟩
   ·rintro σ Hb ⟨Ls,F1⟩;exact⟨Ls,F1⟩
  rintro σ Hb ⟨⟨v,rfl⟩,F1⟩;exact q Hb (U3.trans F1)
variable(kj:bI P w K mg base true 3 "_law_case" ["_law_script","_law_most"] (yz K))
variable(kn:bI P w K mg base true 2 "_law_calm" ["_law_case_here"] yW)
variable(jx:bI P w K mg base true 9 "_law_asked" ["_law_case_here"] (yX aA))
variable(iM:bI P w K mg base true 4 "_law_anchor" ["_law_case_here","_law_told"] (rW aA))
variable(e6:bI P w K mg base true 9 "_law_round_shown" ["_law_case_here","_law_told","_law_worth_here"] (rX aA))
theorem pH:aK ["_law_script","_law_case_here","_law_told","_law_shut","_law_one","_law_ends"] ["_law_script"] (au tG):=gC
include T Fc cG cH du eZ kj kn jx iM e6 in
theorem adu(F:jh K "law" "law" tG f fd):aZ P w K mg base (AU P) true 10 f fd ["_law_script"] (DL K):=by
 refine F.f' pH Am gD
 ·obtain⟨a,ns,rfl,_⟩:=h;rfl
 ·obtain⟨a,ns,rfl,hS,hlen,q⟩:=h;have hu:=hr.units;have Jv:(Bc (Dj "law" (au tG))).units<cLine:=by lia
  refine⟨_,(AQ (AZ (1) pH.nd (BK kn (AB (My kj)))) (AQ (AZ (2) pH.nd (Vr jx)) (AQ (CJ (CO (Cg (Cv (Bn (NH (Ij awF)))) (EL (Cv (Bn (BK iM t6))))))) (AQ (FX (3) pH.nd) (AQ (DB (E7 Bm) (Af (4) pH.nd) (AQ (AZ (3) pH.nd (Cy B4 Bg (Df BP))) (A8 (CJ (Cv (Bn (BK e6 (HR (Ij (AB (Df BP))))))))))) (AQ (AZ (5) pH.nd (n_ du (Ao (xb T.fC) (Ao (xb T.fC) (Ao (Vr cH) (AB (OR (AB Bg)))))))) (A8 (Az (BK eZ (HR (Ao (BK cG (Jb Ba)) (HQ (AB (ED (Bd NK ai))))))))))))))),?_⟩;refine⟨λσ H1=>∃(b:Addr)(c:Case)(x1 x2 m l:Addr)(us:List V),σ=[sR a,sR b,none,none,none,none]/\av H H1/\jd H1 b (cW c) x1 x2 m l us/\fh 9 aaP,?_,?_⟩
  ·refine⟨_,rfl,a,ns,9,rfl,hS,AN,AN,λH1 b c x1 x2 m l us s1 hb C1 ok=>?_⟩;have hx:=ok.x;have hy:=ok.y;have apZ:fh 60 c:=⟨by lia,by lia,ok.good,ok.same,ok.out,ok.into,ok.least⟩
   exact⟨b,c,x1,x2,m,l,us,rfl,C1,apZ,λH2 b2 m2 s2 yT qb C2=>⟨b2,c,x1,x2,m2,l,us,rfl,Bl s2,C2,τ ok⟩⟩
  rintro σ H1 ⟨b,c,x1,x2,m,l,us,rfl,s1,C1,ok⟩;have US:=ok.x;have UT:=ok.y;refine⟨λσ H3=>∃(t:Addr)(vs:List V)(es:List Fd),σ=[sR a,sR b,sR t,none,none,none]/\av H1 H3/\H3 t=some (.lst vs)/\cK Tp H3 aA vs es/\cX nj (cW c).out (cW c).into (cW c).least es,?_,?_⟩
  ·exact⟨_,rfl,b,c,x1,x2,m,l,us,9,rfl,C1,ok,by lia,λes TD H3 t vs s3 _ h3 FL=>⟨t,vs,es,rfl,s3,h3,FL.keep RH (λ_ _ h=>h) λ_ _=>trivial,TD⟩⟩
  generalize cW c=c at C1 ok US UT;have atL:fh 50 c:=⟨by lia,by lia,ok.good,ok.same,ok.out,ok.into,ok.least⟩
  have O9:fh 30 c:=⟨by lia,by lia,ok.good,ok.same,ok.out,ok.into,ok.least⟩
  rintro σ H3 ⟨t,ws,es,rfl,s3,ht,FL,TD⟩;have C3:=Jd s3;have FZ:=FL.1;have C0:=λP k=>A5 O9 TD P k
  refine⟨λσ H4=>σ=[sR a,sR b,sR t,none,none,none]/\av H3 H4,?_,?_⟩
  ·refine⟨_,rfl,_,_,_,true,_,rfl,rfl, .lst ht,rfl,_,rfl,?_⟩;refine gu ?_;refine⟨_,rfl,_,rfl,b,t,c,x1,x2,m,l,us,ws,es,rfl,C3,atL,ht,FL,TD,λH4 s4=>⟨_,rfl,?_⟩⟩;refine gu ?_;exact⟨rfl,s4⟩
  rintro σ H4 ⟨rfl,s4⟩;refine⟨λσ H5=>∃sh,σ=[sR a,sR b,sR t,sR sh,none,none]/\av H4 H5/\H5 sh=some (.lst []),⟨aE A9,λsh h=>⟨sh,rfl,Aa h,ae⟩⟩,?_⟩;rintro σ H5 ⟨UW,rfl,s5,O7⟩;have Zp:=J1 s5;refine⟨λσ H6=>∃(sh:Addr)(mn:List V),(∃u,σ=[sR a,sR b,sR t,sR sh,u,none])/\av H3 H6/\H6 sh=some (.lst mn)/\gw H6 mn (Vs es),?_,?_⟩
  ·refine⟨_,rfl,t,rfl,⟨_, .of (Zp _ _ ht)⟩,?_⟩;refine br (xs:=ws) (λk σ H6=>∃(sh:Addr)(mn:List V),(∃u,σ=[sR a,sR b,sR t,sR sh,u,none])/\av H3 H6/\H6 sh=some (.lst mn)/\gw H6 mn (Vs (K7 k))) ⟨UW,[],⟨_,rfl⟩,Zp,O7, .nil⟩ ?_ ?_ ?_
   ·rintro k σ H6 _ ⟨_,_,_,s6,_⟩;exact .of (EW ht)
   ·rintro k v σ H6 hv ⟨sh,mn,⟨u,rfl⟩,s6,v_,PS⟩;have hk:k<es.length:=by rw[<-FZ];exact(AM hv).1
    obtain⟨e,ek⟩:∃e,es[k]?=some e:=⟨_,Bu hk⟩
    obtain⟨y,dy,wy,il,pr,mC,iC,e1,F0⟩:=R7 e;rw[hv]at e1;cases e1;have F:=F0.keep (P':=λ_=>True) (λb o _ e=>s6 b o e) (Ex s6) λ_ h=>h
    have n1:=tV (k+1);have et:es.take (k+1)=es.take k++[e]:=by rw[List.take_succ,ek];rfl
    rw[et,iu,if_pos rfl,List.length_append]at n1;have Xs:=PS.1;have pyl:=F.pp.1;refine⟨λσ H7=>∃(sh:Addr)(mn:List V),σ=[sR a,sR b,sR t,sR sh,sR y,none]/\av H3 H7/\H7 sh=some (.lst mn)/\gw H7 mn (Vs (K7 (k+1))),?_,?_⟩
    ·refine⟨_,rfl,_,rfl,y,aA,dy,_,_,rfl,F.ob,Fc.cl,Fc.pairs,iT e.worth wy il pr,sh,pr,mn,iC,rfl,rfl,v_,F.hp,aE A3,λs2 By=>?_⟩;refine⟨s2,mn++iC,rfl,LF mw,ae,?_⟩;rw[et,iu,if_pos rfl];exact(PS.append F.pp).same mw
    rintro σ H7 ⟨UY,Lv,rfl,s7,Lw,UZ⟩;have FL7:=FL.keep (P':=λ_=>True) (λb o _ e=>s7 b o e) (Ex s7) λ_ h=>h
    have F7:=F0.keep (P':=λ_=>True) (λb o _ e=>s7 b o e) (Ex s7) λ_ h=>h
    refine⟨_,rfl,_,rfl,_,rfl,y,aA,dy,_,_,rfl,F7.ob,Fc.cl,Fc.worth,JW e.worth,b,t,e.worth,c,x1,x2,m,l,us,ws,es,e,rfl,K_ s7,O9,GK ht,FL7,TD,B7 ek,rfl,λH8 s8=>⟨_,rfl,?_⟩⟩;refine gu ?_;exact⟨UY,Lv,⟨_,rfl⟩,Kr s8,Dm Lw,UZ.same s8⟩
   ·rintro σ H6 ⟨sh,mn,Ls,s6,v_,PS⟩;rw[FZ,List.take_length]at PS;exact⟨sh,mn,Ls,s6,v_,PS⟩
  rintro σ H6 ⟨sh,mn,⟨u,rfl⟩,s6,v_,PS⟩;have lS:=tV es.length;rw[List.take_length]at lS;have uo:Stop (dU c (Vs es)) c.out c.into c.least:=TD.end λq=>by
   rw[vh];simp
  generalize lN (λ_=>true) es=S at PS lS uo;have C6:=K_ s6;have Xs:=PS.1;refine⟨λσ H7=>∃(e:Addr)(as:List Addr),σ=[sR a,sR b,sR t,sR sh,u,sR e]/\av H6 H7/\H7 e=some (.lst Dt)/\fE H7 as (n9 c S) c.xs.length c.ys.length,?_,?_⟩
  ·have jv:=C6.ca;refine⟨_,rfl,b,_,0,_,rfl,rfl, .of jv,AI (j:=0),x1,_,rfl, .inl (.of C6.fi),λy1 BI=>?_⟩;have t1:=sJ BI;have CZ:=OB jv;refine⟨_,rfl,b,_,1,_,rfl,rfl, .of CZ,AI (j:=1),x2,_,rfl, .inl (.of (OB C6.se)),λy2 wk=>?_⟩;have t2:=t1.trans oK;refine⟨_,rfl,b,c,x1,x2,m,l,us,30,rfl,C6.keep t2,O9,λH7 tm s7 TF=>?_⟩;refine⟨_,rfl,sh,_,rfl, .inl (.of (GK (t2 _ _ v_))),λy3 Em=>?_⟩;have t3:=(Vl s7).trans rp;refine⟨y1,y2,tm, .ref y3,c,S,rfl,(Aa Em) _ _ (GK ((Aa wk) _ _ ae)),(Aa Em) _ _ (GK ae),GX (Aa Em), .inr ⟨y3,mn,rfl,ae,OC t3⟩,by lia,by lia,by lia,λH8 e s8 ⟨as,he,_,TE,_⟩=>⟨e,as,rfl,t3.trans s8,he,TE⟩⟩
  rintro σ H7 ⟨e,as,rfl,s7,he,TE⟩;have C7:=C6.keep s7;refine⟨_,rfl,_,rfl,_,rfl,b,sh,c,x1,x2,m,l,us,mn,S,rfl,C7,GK v_,OC s7,by lia,by lia,λH8 r vs s8 _ h8 S8=>?_⟩;have C8:=C7.keep s8;have jv:=C8.ca;have wK:=C8.nu;refine⟨_,rfl,_,rfl,b,_,2,_,rfl,rfl, .of jv,AI (j:=2),m,_,3,_,rfl,rfl, .of wK,AI (j:=3),_,_,rfl,rfl,b,r,e,c.least-1,c,x1,x2,m,l,us,vs,as,S,rfl,C8,ok.out,ok.into,h8,S8,Dm he,TE.same s8,λps w=>?_,λH9 s9=>q _⟩;have:=uo ps w
  lia
end
theorem all_mk{l:W.OpenLaw}{K}(X:K.In h)(G:h.Ns mainGlobals mg)(hfa:mg "law"=some (.ref fa))
  {akt:Option Addr} {arO ahk ajo aaX anC:Value}
  {acn}
  {agv:Option Addr} {asW awu awM hZ axD:Value}
  {aaM}
  {adf:Option Addr} {ass atP aiV gm aoC:Value}
  {adF}
  (za:Si K "Terms" aQ)
  (vy:Si K "Trails" az)
  (sg:Si K "Finding" aA)
  (vz:Si K "Groups" aJ)
  (m9:Si K "Gathering" aC)
  {abi} (arM:W.nsIn K mainGlobals "is_small_letter"=some (some (.ref abi)))
  (apV:fT K "is_small_letter" "is_small_letter" gR abi)
  (adg:W.nsIn K mainGlobals "is_word"=some (some (.ref anh)))
  (amm:fT K "is_word" "is_word" nX anh)
  (aih:W.nsIn K mainGlobals "is_between"=some (some (.ref ane)))
  (atR:fT K "is_between" "is_between" lO ane)
  (aix:W.nsIn K mainGlobals "check_number"=some (some (.ref aiB)))
  (aiw:fT K "check_number" "check_number" jM aiB)
  (aeD:W.nsIn K mainGlobals "check_near_form"=some (some (.ref amR)))
  (afh:fT K "check_near_form" "check_near_form" gS amR)
  (ajF:W.nsIn K mainGlobals "near_prices"=some (some (.ref ahZ)))
  (akl:fT K "near_prices" "near_prices" iD ahZ)
  (atZ:W.findIn K (.ref aQ) "__init__"=some (some (.ref iA))) (afU:W.isFn K (.ref iA)=true)
  (afK:K.lookup iA=some ⟨axl,ayF, .func z_,axX⟩)
  (auv:W.codeIn K aaX "Terms.__init__"=true) (alV:W.keepIn K (.ref iA)=true)
  (ahc:K.lookup acn=some ⟨axZ,axb, .seq #[.int 50 axc, .none] ayD,axN⟩)
  (ahM:W.findIn K (.ref aQ) "pair_worth"=some (some (.ref jX))) (ajY:W.isFn K (.ref jX)=true)
  (arT:fT K "pair_worth" "Terms.pair_worth" eQ jX)
  (aeC:W.nsIn K mainGlobals "greatest"=some (some (.ref aqt)))
  (amk:fT K "greatest" "greatest" lP aqt)
  (aet:W.nsIn K mainGlobals "less"=some (some (.ref alp)))
  (alz:fT K "less" "less" CM alp)
  (auq:W.nsIn K mainGlobals "begun_or_gone_on"=some (some (.ref akW)))
  (aoJ:fT K "begun_or_gone_on" "begun_or_gone_on" gA akW)
  (aey:W.findIn K (.ref az) "brought_behind"=some (some (.ref gJ))) (aqT:W.isFn K (.ref gJ)=true)
  (awA:fT K "brought_behind" "Trails.brought_behind" d6 gJ)
  (auH:W.findIn K (.ref az) "__init__"=some (some (.ref kz))) (aht:W.isFn K (.ref kz)=true)
  (aqf:fT K "__init__" "Trails.__init__" fo kz)
  (aen:W.findIn K (.ref az) "goes_on"=some (some (.ref aaD))) (aoq:W.isFn K (.ref aaD)=true)
  (adv:fT K "goes_on" "Trails.goes_on" iy aaD)
  (akY:W.findIn K (.ref az) "is_brought_by"=some (some (.ref acu))) (ajw:W.isFn K (.ref acu)=true)
  (ajm:fT K "is_brought_by" "Trails.is_brought_by" eR acu)
  (akZ:W.findIn K (.ref az) "crossings_before"=some (some (.ref fZ))) (aeW:W.isFn K (.ref fZ)=true)
  (aqG:fT K "crossings_before" "Trails.crossings_before" dC fZ)
  (apw:W.findIn K (.ref az) "pair_before"=some (some (.ref iY))) (aka:W.isFn K (.ref iY)=true)
  (aiK:fT K "pair_before" "Trails.pair_before" fH iY)
  (ans:W.findIn K (.ref az) "way_to"=some (some (.ref abF))) (aiL:W.isFn K (.ref abF)=true)
  (akE:fT K "way_to" "Trails.way_to" i7 abF)
  (anu:W.findIn K (.ref aA) "__init__"=some (some (.ref jY))) (awd:W.isFn K (.ref jY)=true)
  (akf:fT K "__init__" "Finding.__init__" gB jY)
  (atI:W.nsIn K mainGlobals "order_of"=some (some (.ref agO)))
  (aoB:fT K "order_of" "order_of" ph agO)
  (aoU:W.nsIn K mainGlobals "make_finding"=some (some (.ref aui)))
  (ase:fT K "make_finding" "make_finding" fI aui)
  (auF:W.findIn K (.ref aJ) "__init__"=some (some (.ref kC))) (aur:W.isFn K (.ref kC)=true)
  (avx:fT K "__init__" "Groups.__init__" gT kC)
  (aiQ:W.findIn K (.ref aJ) "has"=some (some (.ref qY))) (aqE:W.isFn K (.ref qY)=true)
  (atp:fT K "has" "Groups.has" jl qY)
  (ajL:W.findIn K (.ref aJ) "take_in"=some (some (.ref lr))) (aoe:W.isFn K (.ref lr)=true)
  (aik:fT K "take_in" "Groups.take_in" fU lr)
  (avU:W.findIn K (.ref aJ) "unite"=some (some (.ref ni))) (alA:W.isFn K (.ref ni)=true)
  (ais:fT K "unite" "Groups.unite" fJ ni)
  (amq:W.findIn K (.ref aJ) "told"=some (some (.ref oN))) (apo:W.isFn K (.ref oN)=true)
  (agJ:fT K "told" "Groups.told" iE oN)
  (aks:W.findIn K (.ref aC) "__init__"=some (some (.ref iZ))) (agk:W.isFn K (.ref iZ)=true)
  (amL:fT K "__init__" "Gathering.__init__" fK iZ)
  (awq:W.findIn K (.ref aC) "mark"=some (some (.ref lu))) (ahW:W.isFn K (.ref lu)=true)
  (awB:fT K "mark" "Gathering.mark" fV lu)
  (agN:W.findIn K (.ref aC) "go_over"=some (some (.ref jf))) (aiy:W.isFn K (.ref jf)=true)
  (afw:fT K "go_over" "Gathering.go_over" dX jf)
  (aro:W.findIn K (.ref aC) "visit"=some (some (.ref acj))) (ahv:W.isFn K (.ref acj)=true)
  (afD:fT K "visit" "Gathering.visit" fq acj)
  (aki:W.nsIn K mainGlobals "best_groups"=some (some (.ref auZ)))
  (afr:fT K "best_groups" "best_groups" kH auZ)
  (aem:W.nsIn K mainGlobals "shut_by"=some (some (.ref afp)))
  (arB:fT K "shut_by" "shut_by" nY afp)
  (ahr:W.nsIn K mainGlobals "open_worths"=some (some (.ref asK)))
  (afs:fT K "open_worths" "open_worths" f9 asK)
  (alJ:W.nsIn K mainGlobals "make_round"=some (some (.ref axC)))
  (aeN:fT K "make_round" "make_round" gU axC)
  (aqp:W.nsIn K mainGlobals "shut_pairs"=some (some (.ref agl)))
  (adq:fT K "shut_pairs" "shut_pairs" lQ agl)
  (arG:W.nsIn K mainGlobals "compare"=some (some (.ref ald)))
  (alx:fT K "compare" "compare" rY ald)
  (aho:W.nsIn K mainGlobals "read_backwards"=some (some (.ref asm)))
  (adw:fT K "read_backwards" "read_backwards" fW asm)
  (agX:W.nsIn K mainGlobals "starting_table"=some (some (.ref agK)))
  (amo:fT K "starting_table" "starting_table" iz agK)
  (atJ:W.nsIn K mainGlobals "through_worth"=some (some (.ref aqK)))
  (asp:fT K "through_worth" "through_worth" i8 aqK)
  (oO:W.nsIn K mainGlobals "best_ending"=some (some (.ref oP)))
  (ajt:K.lookup oP=some ⟨axn,axe, .func Z_,axm⟩)
  (agg:W.codeIn K hZ "best_ending"=true) (kL:W.keepIn K (.ref oP)=true)
  (aaT:K.lookup aaM=some ⟨axU,axy, .seq #[.none] axY,axq⟩)
  (ny:W.nsIn K mainGlobals "best_through"=some (some (.ref abX)))
  (alS:K.lookup abX=some ⟨ayC,ayH, .func Zg,axV⟩)
  (awe:W.codeIn K gm "best_through"=true) (jZ:W.keepIn K (.ref abX)=true)
  (adR:K.lookup adF=some ⟨axk,axR, .seq #[.none] axx,axK⟩)
  (apT:W.nsIn K mainGlobals "_law_at"=some (some (.ref avD)))
  (apt:fT K "_law_at" "_law_at" rZ avD)
  (asF:W.nsIn K mainGlobals "_law_whole"=some (some (.ref akN)))
  (ahi:fT K "_law_whole" "_law_whole" lR akN)
  (aiH:W.nsIn K mainGlobals "_law_bank"=some (some (.ref alc)))
  (alw:fT K "_law_bank" "_law_bank" mV alc)
  (auJ:W.nsIn K mainGlobals "_law_book"=some (some (.ref anv)))
  (apN:fT K "_law_book" "_law_book" mW anv)
  (anO:W.nsIn K mainGlobals "_law_quote"=some (some (.ref arW)))
  (amM:fT K "_law_quote" "_law_quote" jm arW)
  (ajN:W.nsIn K mainGlobals "_law_numbers"=some (some (.ref akS)))
  (ato:fT K "_law_numbers" "_law_numbers" gW akS)
  (arh:W.nsIn K mainGlobals "_law_near"=some (some (.ref ajJ)))
  (aqm:fT K "_law_near" "_law_near" mY ajJ)
  (amP:W.nsIn K mainGlobals "_law_case"=some (some (.ref aiT)))
  (amr:fT K "_law_case" "_law_case" mZ aiT)
  (atf:W.nsIn K mainGlobals "_law_pair"=some (some (.ref avF)))
  (aei:fT K "_law_pair" "_law_pair" m3 avF)
  (anc:W.nsIn K mainGlobals "_law_worth"=some (some (.ref afG)))
  (aiI:fT K "_law_worth" "_law_worth" lT afG)
  (agA:W.nsIn K mainGlobals "_law_pairs"=some (some (.ref agC)))
  (atm:fT K "_law_pairs" "_law_pairs" lU agC)
  (ahC:W.nsIn K mainGlobals "_law_terms"=some (some (.ref agu)))
  (apU:fT K "_law_terms" "_law_terms" lV agu)
  (avK:W.nsIn K mainGlobals "_law_calm"=some (some (.ref akp)))
  (agL:fT K "_law_calm" "_law_calm" m4 akp)
  (ajW:W.nsIn K mainGlobals "_law_finding"=some (some (.ref arV)))
  (aib:fT K "_law_finding" "_law_finding" gX arV)
  (avz:W.nsIn K mainGlobals "_law_is_way"=some (some (.ref afz)))
  (aql:fT K "_law_is_way" "_law_is_way" iF afz)
  (aow:W.nsIn K mainGlobals "_law_spots"=some (some (.ref aii)))
  (ajg:fT K "_law_spots" "_law_spots" jn aii)
  (aeR:W.nsIn K mainGlobals "_law_gap"=some (some (.ref aeB)))
  (afQ:fT K "_law_gap" "_law_gap" pj aeB)
  (avt:W.nsIn K mainGlobals "_law_anchor"=some (some (.ref aoO)))
  (aea:fT K "_law_anchor" "_law_anchor" iG aoO)
  (aqQ:W.nsIn K mainGlobals "_law_asked"=some (some (.ref akg)))
  (aeK:fT K "_law_asked" "_law_asked" lW akg)
  (apm:W.nsIn K mainGlobals "_law_shows"=some (some (.ref akz)))
  (aeE:fT K "_law_shows" "_law_shows" lX akz)
  (aqB:W.nsIn K mainGlobals "_law_round_shown"=some (some (.ref aoy)))
  (alT:fT K "_law_round_shown" "_law_round_shown" cw aoy)
  (agZ:W.nsIn K mainGlobals "law"=some (some (.ref agT)))
  (arY:fT K "law" "law" tG agT)
  (Tc:Hm K aQ)
  (Rc:DQ K az)
  (Fc:acB K aA)
  (Gc:aaL K aJ)
  (Hc:Mh K aC)
  (zz:TZ K)
  (ari:W.nsIn K mainGlobals "WORD_MOST"=some (some (.int 12 ayE)))
  (avh:W.nsIn K mainGlobals "WORTH_MOST"=some (some (.int 999999 axt)))
  (afk:W.nsIn K mainGlobals "NEAR_MOST"=some (some (.int 60 axo)))
  (agq:W.nsIn K mainGlobals "PART_MOST"=some (some (.int 100 axH)))
  (awG:W.nsIn K mainGlobals "FINDINGS_MOST"=some (some (.int 20 axF)))
  (apa:Sh K "BadTerms" fL)
  (asz:Sh K "BadNear" d7)
  (ahg:Sh K "TooMany" nZ)
  (asY:W.nsIn K mainGlobals "reversed"=some none)
  (aiZ:W.nsIn K mainGlobals "sorted"=some none)
  :∃fd:FuncData,(∀(s:Shared)(v:Value),BindsTo s fd ⟨[v],[]⟩ [("_law_script",v)])/\∀base:Heap,K.In base->base.Ns mainGlobals mg->aZ l.prog w K mg base (AU l.prog) true 10 fa fd ["_law_script"] (DL K):=by
 have e:=hfa.symm.trans (EA agZ);cases e;have T:=zz.tb X G;have kc:GH mg "WORD_MOST" (.int 12):=⟨_,EA ari,_,rfl⟩
 have bZ:GH mg "WORTH_MOST" (.int 999999):=⟨_,EA avh,_,rfl⟩
 have iX:GH mg "NEAR_MOST" (.int 60):=⟨_,EA afk,_,rfl⟩
 have ke:GH mg "PART_MOST" (.int 100):=⟨_,EA agq,_,rfl⟩
 have e7:GH mg "FINDINGS_MOST" (.int 20):=⟨_,EA awG,_,rfl⟩
 have jN:=apa.er X G;have cx:=asz.er X G;have lg:=ahg.er X G;have jR:mg "reversed"=none:=W.mg_none_of X G asY;have jP:mg "sorted"=none:=W.mg_none_of X G aiZ;obtain @⟨_,k1,k2,k3,k4,k5,_,k6,_,l9,c9,k9⟩:=arY;refine⟨W.fnOf "law" "law" (dw tG) (cP tG) (au tG) .none k1 k2 k3 k6 k4 k5,λs v=> .of_eq rfl,λbase _ _=>?_⟩;have ft:=apV.df X G arM (λ_ F=>arP (P:=l.prog) (w:=w) (base:=base) T F) (CK λ_ _ _ _ _ _ _=>rfl);have kY:=amm.df X G adg (λ_ F=>atv (P:=l.prog) (w:=w) (base:=base) T kc ft F) (CK λ_ _ _ _ _ _ _=>rfl);have eU:=atR.df X G aih (λ_ F=>ahX (P:=l.prog) (w:=w) (base:=base) T F) (zW λ_ _ _ _ _ _ _ _ _=>rfl);have cL:=aiw.df X G aix (λ_ F=>afP (P:=l.prog) (w:=w) (base:=base) T eU jN F) (Ur λ_ _ _ _ _ _ _ _ _ _=>rfl);have fu:=afh.df X G aeD (λ_ F=>asf (P:=l.prog) (w:=w) (base:=base) T eU bZ kY cx F) (zW λ_ _ _ _ _ _ _ _ _=>rfl);have iH:=akl.df X G ajF (λ_ F=>ard (P:=l.prog) (w:=w) (base:=base) T cx iX fu F) (CK λ_ _ _ _ _ _ _=>rfl);have aga:=ud (st:=bG) afK auv alV;have auX:=agi (P:=l.prog) (w:=w) (base:=base) T bZ ke cL iH Tc aga;have anP:Binds K z_ ["self","same","out","into","least","part","near"] []:=λs us hK hl=>by
  obtain⟨_,_,_,_,_,_,_,rfl⟩:=QF.auW us (by simpa using hl);exact Oy (Q2 ahc)
 have qK:oE l.prog w K mg base true 5 "Terms" aQ ["self","same","out","into","least","part","near"] [] (ue aQ fL d7):=Aq auX ⟨za.b,atZ,afU,za.c⟩ (EA za.a) anP (.nil);have eY:=arT.mt Tc.cl ahM ajY (λ_ F=>anL (P:=l.prog) (w:=w) (base:=base) T Tc F) (zW λ_ _ _ _ _ _ _ _ _=>rfl);have fN:=amk.df X G aeC (λ_ F=>ajA (P:=l.prog) (w:=w) (base:=base) T F) (CK λ_ _ _ _ _ _ _=>rfl);have lY:=alz.df X G aet (λ_ F=>alk (P:=l.prog) (w:=w) (base:=base) T F) (yY λ_ _ _ _ _ _ _ _=>rfl);have eX:=aoJ.df X G auq (λ_ F=>ahj (P:=l.prog) (w:=w) (base:=base) T F) (yY λ_ _ _ _ _ _ _ _=>rfl);have cQ:=awA.mt Rc.cl aey aqT (λ_ F=>afd (P:=l.prog) (w:=w) (base:=base) T fN lY Rc F) (zW λ_ _ _ _ _ _ _ _ _=>rfl);have c_:=aqf.nw (EA vy.a) vy.b vy.c auH aht (λ_ F=>aoE (P:=l.prog) (w:=w) (base:=base) T Tc Rc eX cQ F) (zW λ_ _ _ _ _ _ _ _ _=>rfl);have cy:=adv.mt Rc.cl aen aoq (λ_ F=>amE (P:=l.prog) (w:=w) (base:=base) T Rc F) (yY λ_ _ _ _ _ _ _ _=>rfl);have bh:=ajm.mt Rc.cl akY ajw (λ_ F=>amg (P:=l.prog) (w:=w) (base:=base) T Rc F) (zW λ_ _ _ _ _ _ _ _ _=>rfl);have a8:=aqG.mt Rc.cl akZ aeW (λ_ F=>aoK (P:=l.prog) (w:=w) (base:=base) T lY Rc F) (yY λ_ _ _ _ _ _ _ _=>rfl);have dM:=aiK.mt Rc.cl apw aka (λ_ F=>apf (P:=l.prog) (w:=w) (base:=base) T Rc bh a8 F) (yY λ_ _ _ _ _ _ _ _=>rfl);have gh:=akE.mt Rc.cl ans aiL (λ_ F=>aeV (P:=l.prog) (w:=w) (base:=base) T Rc cy dM F) (yY λ_ _ _ _ _ _ _ _=>rfl);have lZ:=akf.nw (EA sg.a) sg.b sg.c anu awd (λ_ F=>amA (P:=l.prog) (w:=w) (base:=base) T Fc F) (abZ λ_ _ _ _ _ _ _ _ _ _ _=>rfl);have l0:=aoB.df X G atI (λ_ F=>awJ (P:=l.prog) (w:=w) (base:=base) T Fc F) (CK λ_ _ _ _ _ _ _=>rfl);have gZ:=ase.df X G aoU (λ_ F=>asS (P:=l.prog) (w:=w) (base:=base) T Rc gh lZ F) (zW λ_ _ _ _ _ _ _ _ _=>rfl);have n5:=avx.nw (EA vz.a) vz.b vz.c auF aur (λ_ F=>agI (P:=l.prog) (w:=w) (base:=base) T Gc F) (CK λ_ _ _ _ _ _ _=>rfl);have jo:=atp.mt Gc.cl aiQ aqE (λ_ F=>amc (P:=l.prog) (w:=w) (base:=base) T Gc F) (yY λ_ _ _ _ _ _ _ _=>rfl);have cz:=aik.mt Gc.cl ajL aoe (λ_ F=>alF (P:=l.prog) (w:=w) (base:=base) T Gc F) (yY λ_ _ _ _ _ _ _ _=>rfl);have dq:=ais.mt Gc.cl avU alA (λ_ F=>apQ (P:=l.prog) (w:=w) (base:=base) T Gc F) (zW λ_ _ _ _ _ _ _ _ _=>rfl);have iI:=agJ.mt Gc.cl amq apo (λ_ F=>aml (P:=l.prog) (w:=w) (base:=base) T Gc jP F) (CK λ_ _ _ _ _ _ _=>rfl);have jq:=amL.nw (EA m9.a) m9.b m9.c aks agk (λ_ F=>apd (P:=l.prog) (w:=w) (base:=base) T n5 Hc F) (zW λ_ _ _ _ _ _ _ _ _=>rfl);have cA:=awB.mt Hc.cl awq ahW (λ_ F=>aoa (P:=l.prog) (w:=w) (base:=base) T Hc dq F) (zW λ_ _ _ _ _ _ _ _ _=>rfl);have dY:=afw.mt Hc.cl agN aiy (λ_ F=>aqN (P:=l.prog) (w:=w) (base:=base) T bh a8 Hc dq cz cA F) (zW λ_ _ _ _ _ _ _ _ _=>rfl);have fv:=afD.mt Hc.cl aro ahv (λ_ F=>ajT (P:=l.prog) (w:=w) (base:=base) T Rc cy Hc cz cA jo dY F) (zW λ_ _ _ _ _ _ _ _ _=>rfl);have iJ:=afr.df X G aki (λ_ F=>aoG (P:=l.prog) (w:=w) (base:=base) T Rc Hc jq fv iI F) (yY λ_ _ _ _ _ _ _ _=>rfl);have n6:=arB.df X G aem (λ_ F=>aoA (P:=l.prog) (w:=w) (base:=base) T F) (CK λ_ _ _ _ _ _ _=>rfl);have bW:=afs.df X G ahr (λ_ F=>akT (P:=l.prog) (w:=w) (base:=base) T Tc n6 eY F) (Ur λ_ _ _ _ _ _ _ _ _ _=>rfl);have g7:=aeN.df X G alJ (λ_ F=>anb (P:=l.prog) (w:=w) (base:=base) T Tc fN Rc c_ iJ gZ F) (yY λ_ _ _ _ _ _ _ _=>rfl);have jr:=adq.df X G aqp (λ_ F=>ajP (P:=l.prog) (w:=w) (base:=base) T Fc F) (yY λ_ _ _ _ _ _ _ _=>rfl);have n8:=alx.df X G arG (λ_ F=>ajk (P:=l.prog) (w:=w) (base:=base) T jP e7 bW g7 jr l0 lg F) (zW λ_ _ _ _ _ _ _ _ _=>rfl);have d_:=adw.df X G aho (λ_ F=>aju (P:=l.prog) (w:=w) (base:=base) T jR F) (CK λ_ _ _ _ _ _ _=>rfl);have fX:=amo.df X G agX (λ_ F=>aus (P:=l.prog) (w:=w) (base:=base) T Rc c_ d_ F) (yY λ_ _ _ _ _ _ _ _=>rfl);have gj:=asp.df X G atJ (λ_ F=>aqF (P:=l.prog) (w:=w) (base:=base) T F) (zW λ_ _ _ _ _ _ _ _ _=>rfl);have anj:=ud (st:=bD) ajt agg kL;have oQ:=aoZ (P:=l.prog) (w:=w) (base:=base) T Rc c_ bW anj;have awY:Binds K Z_ ["first","second","terms","taken"] [.none]:=λs us hK hl=>by
  have qb:us.length=3:=by simpa using hl
  match us,qb with|[_,_,_],_=>exact Oy (Q2 aaT)
 have axw:oX l.prog w K mg base true 6 "best_ending" ["first","second","terms","taken"] [.de] (Kh n9):=⟨_,_,[.none],oQ,EA oO,kL,awY, .cons rfl .nil⟩
 have arL:Binds K Z_ ["first","second","terms","taken"] []:=λs us hK hl=>by
  have qb:us.length=4:=by simpa using hl
  match us,qb with|[_,_,_,_],_=>exact Oy (Q2 aaT)
 have du:oX l.prog w K mg base true 6 "best_ending" ["first","second","terms","taken"] [] (Kh n9):=⟨_,_,[],oQ,EA oO,kL,arL, .nil⟩
 have ajh:=ud (st:=bg) alS awe jZ;have nB:=akc (P:=l.prog) (w:=w) (base:=base) T Rc c_ bW fX gj ajh;have avP:Binds K Zg ["first","second","terms","taken"] [.none]:=λs us hK hl=>by
  have qb:us.length=3:=by simpa using hl
  match us,qb with|[_,_,_],_=>exact Oy (Q2 adR)
 have axP:oX l.prog w K mg base true 7 "best_through" ["first","second","terms","taken"] [.de] (Kh me):=⟨_,_,[.none],nB,EA ny,jZ,avP, .cons rfl .nil⟩
 have arJ:Binds K Zg ["first","second","terms","taken"] []:=λs us hK hl=>by
  have qb:us.length=4:=by simpa using hl
  match us,qb with|[_,_,_,_],_=>exact Oy (Q2 adR)
 have gk:oX l.prog w K mg base true 7 "best_through" ["first","second","terms","taken"] [] (Kh me):=⟨_,_,[],nB,EA ny,jZ,arJ, .nil⟩
 have bA:=apt.df X G apT (λ_ F=>ajl (P:=l.prog) (w:=w) (base:=base) T F) (yY λ_ _ _ _ _ _ _ _=>rfl);have bj:=ahi.df X G asF (λ_ F=>aej (P:=l.prog) (w:=w) (base:=base) T F) (CK λ_ _ _ _ _ _ _=>rfl);have kg:=alw.df X G aiH (λ_ F=>amT (P:=l.prog) (w:=w) (base:=base) T F) (zW λ_ _ _ _ _ _ _ _ _=>rfl);have kh:=apN.df X G auJ (λ_ F=>apq (P:=l.prog) (w:=w) (base:=base) T bA F) (abZ λ_ _ _ _ _ _ _ _ _ _ _=>rfl);have jt:=amM.df X G anO (λ_ F=>aiA (P:=l.prog) (w:=w) (base:=base) T bA F) (bn6 λ_ _ _ _ _ _ _ _ _ _ _ _=>rfl);have g9:=ato.df X G ajN (λ_ F=>afA (P:=l.prog) (w:=w) (base:=base) T bA F) (yY λ_ _ _ _ _ _ _ _=>rfl);have ki:=aqm.df X G arh (λ_ F=>ael (P:=l.prog) (w:=w) (base:=base) T F) (zW λ_ _ _ _ _ _ _ _ _=>rfl);have kj:=amr.df X G amP (λ_ F=>agQ (P:=l.prog) (w:=w) (base:=base) T bA kg kh jt g9 ki F) (yY λ_ _ _ _ _ _ _ _=>rfl);have bU:=aei.df X G atf (λ_ F=>asx (P:=l.prog) (w:=w) (base:=base) T F) (Ur λ_ _ _ _ _ _ _ _ _ _=>rfl);have jw:=aiI.df X G anc (λ_ F=>akX (P:=l.prog) (w:=w) (base:=base) T bU F) (yY λ_ _ _ _ _ _ _ _=>rfl);have g_:=atm.df X G agA (λ_ F=>awk (P:=l.prog) (w:=w) (base:=base) T bj F) (CK λ_ _ _ _ _ _ _=>rfl);have cH:=apU.df X G ahC (λ_ F=>avN (P:=l.prog) (w:=w) (base:=base) T qK F) (CK λ_ _ _ _ _ _ _=>rfl);have kn:=agL.df X G avK (λ_ F=>apk (P:=l.prog) (w:=w) (base:=base) T bU F) (CK λ_ _ _ _ _ _ _=>rfl);have hJ:=aib.df X G ajW (λ_ F=>alv (P:=l.prog) (w:=w) (base:=base) T Fc bj g_ F) (CK λ_ _ _ _ _ _ _=>rfl);have iL:=aql.df X G avz (λ_ F=>avj (P:=l.prog) (w:=w) (base:=base) T bU F) (yY λ_ _ _ _ _ _ _ _=>rfl);have cG:=ajg.df X G aow (λ_ F=>ajz (P:=l.prog) (w:=w) (base:=base) T bU F) (yY λ_ _ _ _ _ _ _ _=>rfl);have l5:=afQ.df X G aeR (λ_ F=>awI (P:=l.prog) (w:=w) (base:=base) T F) (zW λ_ _ _ _ _ _ _ _ _=>rfl);have iM:=aea.df X G avt (λ_ F=>atG (P:=l.prog) (w:=w) (base:=base) T Fc hJ iL jw cG F) (yY λ_ _ _ _ _ _ _ _=>rfl);have jx:=aeK.df X G aqQ (λ_ F=>ajb (P:=l.prog) (w:=w) (base:=base) T n8 cH F) (CK λ_ _ _ _ _ _ _=>rfl);have eZ:=aeE.df X G apm (λ_ F=>aeT (P:=l.prog) (w:=w) (base:=base) T bj l5 F) (Ur λ_ _ _ _ _ _ _ _ _ _=>rfl);have e6:=alT.df X G aqB (λ_ F=>asd (P:=l.prog) (w:=w) (base:=base) T Fc bj cG cH du gk eZ F) (zW λ_ _ _ _ _ _ _ _ _=>rfl);exact adu T Fc cG cH du eZ kj kn jx iM e6 (G8 (st:=tG) l9 c9 k9)
theorem walk{l:W.OpenLaw}{q}{loose}{XP}{YP}{d:DefRec}{K:Params->W.Frag}(hn:l.most=some 63)(Q4:d.params.defaults=[])
  (hY:∀(w:World)(h:Heap),YP w h->(K w.params).In h)
  (F:∀(w:World)(mg:Str->Option Value)(fa:Addr)(h:Heap),(K w.params).In h->h.Ns mainGlobals mg->mg d.name=some (.ref fa)->
   ∃fd:FuncData,(∀(s:Shared)(u:Value),sM [("_law_script",u)])/\∀base:Heap,(K w.params).In base->base.Ns mainGlobals mg->aZ l.prog w O_ mg base (AU l.prog) true 10 fa fd ["_law_script"] (DL O_)):
  W.WalkO q loose XP YP l.row.toRowW d [] (λf vs=>pB f):=
 L2.aqo (n:=63) (k:=10) (x:="_law_script") (CX:=λw=>AU l.prog) (sp:=λw=>DL O_) hn EN Q4 ⟨(λ_=>rfl),AN,AN⟩ hY F (λ_ _ a ns hl _ hS=>⟨a,ns,rfl,hS,hl,λ_=>rfl⟩) λ_ _ _ _ _ z=>by obtain⟨_,_,_,_,_,_,_,_,_,_,_,_,_,z⟩:=z;exact z
end WJ
open PySem PySem.W PyProof.Rows
set_option maxRecDepth 100000 in
set_option maxHeartbeats 0 in
theorem PySem.Challenge.cw_quotefind_k21_shown_best_holds : PySem.Challenge.rw_quotefind_k21_shown_best.Holds := by
 w_on;refine holds_law HD.ws fun acd=>?_;k_head
 (case hw=>w_witness2)
 refine WJ.walk (l:=PySem.Challenge.rw_quotefind_k21_shown_best) rfl rfl (fun w h Y=>PySem.W.kIn_of Y) ?F
 case F=>
  intro w mg fa h KX G Q5
  refine' WJ.all_mk KX G Q5 ?_ ?_ ?_ ?_ ?_ ?_ ?_ ?_ ?_ ?_ ?_ ?_ ?_ ?_ ?_ ?_ ?_ ?_ ?_ ?_ ?_ ?_ ?_ ?_ ?_ ?_ ?_ ?_ ?_ ?_ ?_ ?_ ?_ ?_ ?_ ?_ ?_ ?_ ?_ ?_ ?_ ?_ ?_ ?_ ?_ ?_ ?_ ?_ ?_ ?_ ?_ ?_ ?_ ?_ ?_ ?_ ?_ ?_ ?_ ?_ ?_ ?_ ?_ ?_ ?_ ?_ ?_ ?_ ?_ ?_ ?_ ?_ ?_ ?_ ?_ ?_ ?_ ?_ ?_ ?_ ?_ ?_ ?_ ?_ ?_ ?_ ?_ ?_ ?_ ?_ ?_ ?_ ?_ ?_ ?_ ?_ ?_ ?_ ?_ ?_ ?_ ?_ ?_ ?_ ?_ ?_ ?_ ?_ ?_ ?_ ?_ ?_ ?_ ?_ ?_ ?_ ?_ ?_ ?_ ?_ ?_ ?_ ?_ ?_ ?_ ?_ ?_ ?_ ?_ ?_ ?_ ?_ ?_ ?_ ?_ ?_ ?_ ?_ ?_ ?_ ?_ ?_ ?_ ?_ ?_ ?_ ?_ ?_ ?_ ?_ ?_ ?_ ?_ ?_ ?_ ?_ ?_ ?_ ?_ ?_ ?_ ?_ ?_ ?_ ?_ ?_ ?_ ?_ ?_ ?_ ?_ ?_ ?_ ?_ ?_
  all_goals first|k_is|(show(_:Prop);constructor<;>first|(show _=_;k_is)|k_exc|(constructor<;>(show _=_;k_is)))|skip
#print axioms PySem.Challenge.cw_quotefind_k21_shown_best_holds
