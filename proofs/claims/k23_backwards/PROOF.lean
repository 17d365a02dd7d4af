import PyProof.Rows.All
import Wide.All
import OpenK.AllK
import Wide.FinOn
import Lean
import PyProof.EqAt
import PyProof.EqKinds
import PyProof.TupleCall
import PySem.Challenge.RW_quotefind_k23_backwards
set_option Elab.async false
set_option linter.all false
set_option maxRecDepth 100000
set_option hygiene false in
local macro_rules
|`(tactic|o_head $H)=>`(tactic|refine holds_open (q:=HD.q HD.pw) (loose:=HD.loose) (Xt:=HD.Xt HD.pw []) (XP:=XL (HD.q HD.pw) []) (Yf:=Hook.obs $H) (Ya:=Hook.val $H) (YP:=Hook.says $H) (d:=HD.d) (kwd:=[]) (N:=HD.JU) (HD.left HD.pw HD.Wi $H fun w os=>by kernel_rfl) (Hook.of $H) (Hook.keeps $H) (fun s e=>xl_of s (Bool.and_eq_true_iff.mp e).1) XL.keeps (by kernel_rfl) (by kernel_rfl) (by kernel_rfl) (fun s e=>recFacts_of (Bool.and_eq_true_iff.mp e).2) (by rfl) (by assumption) (by decide+kernel) ⟨rfl,rfl,rfl,rfl,rfl,by decide+kernel⟩ ?hw ?hc)
|`(ZS $a $b $c)=>`(@aG _ _ $a _ _ _ _ $b (by exact rfl) (Or.inl rfl) $c (by rfl) (by exact .inl rfl))
|`(ZT $a $b)=>`(@aK _ _ $a _ $b (by exact rfl) (Or.inl rfl) (by first|exact .inl rfl|exact .inr rfl|assumption))
|`(ZU $a)=>`(@ak _ _ _ _ _ $a af (by rfl))
|`(ZV $a $b $c)=>`(@aO _ _ _ _ _ _ _ _ _ _ _ _ $a (hr.mono (by decide)) $b $c (by rfl) (by decide) (by rfl) (by rfl))
|`(ZW $a $b)=>`(@aM _ _ _ _ _ _ _ _ _ $a (by exact rfl) T.cN PyProof.Rows.Boot.«len» $b (by decide) (by decide) (by rfl) (by rfl))
|`(ZX $a)=>`(List.getElem?_eq_some_iff.mp $a)
|`(ZY $a)=>`(@aF _ $a _ _ _ _ (pv 0) (by rfl) (by rfl))
|`(ZZ $a $b $c $d)=>`(@eX _ $a _ _ _ _ _ _ _ _ _ _ _ PySem.F.plainAttrs_list PySem.F.slot_list_append PySem.F.type_list_append $b $c $d (by rfl) (by rfl) (by rfl) (by rfl) (by rfl) (by rfl))
|`(Z0 $a $b)=>`(@aB _ _ _ _ _ _ _ (aq K) $a $b (fun _ _=>rfl))
|`(Z1 $a $b)=>`(@ak _ _ _ _ _ $a $b (by rfl))
|`(Z2 $a $b $c)=>`(@aH _ _ _ _ _ _ _ _ $a $b $c)
|`(Z5 $a $b $c)=>`(@bE _ _ _ _ _ _ _ _ hX.own (by exact rfl) $a $b $c (by intro _;rfl))
|`(Z6 $a)=>`(@aB _ _ _ _ _ _ _ (aq K) (pv 0) $a (fun _ _=>rfl))
|`(Z7 $a)=>`(@aB _ _ _ _ _ _ _ (aq K) (@aB _ _ _ _ _ _ _ (aq K) (pv 0) ai (fun _ _=>rfl)) $a (fun _ _=>rfl))
|`(Z9 $a $b)=>`(@aO _ _ _ _ _ _ _ _ _ _ _ _ $a (hr.mono (by decide)) $b (@ak _ _ _ _ _ (pv 0) (@ak _ _ _ _ _ ai af (by rfl)) (by rfl)) (by rfl) (by decide) (by rfl) (by rfl))
|`(Z_ $a $b $c $d)=>`(@aM _ _ _ _ _ _ _ _ _ $a (by exact rfl) $b $c $d (by decide) (by decide) (by rfl) (by rfl))
|`(Z' $a)=>`(@eC _ _ _ _ _ _ $a (by first|exact bj _ (by decide) (by decide)|rfl))
|`(OA $a $b)=>`(@ax _ _ _ _ _ $a $b)
|`(Lw $a)=>`(@ao _ _ _ $a)
|`(Y7 $a $b $c)=>`(@aS _ _ _ _ _ _ _ _ $a $b $c (aV _))
|`(WI $a)=>`(List.mem_of_getElem? $a)
|`(Dt $a)=>`(if_neg $a)
|`(Υ $a $b $c)=>`(@bN _ _ _ _ _ _ _ _ _ _ _ _ _ _ _ _ (@aF _ K _ _ _ _ (pv 0) (by rfl) (by rfl)) $a (hr.mono (by decide)) $b $c (by rfl) (by rfl) (by rfl))
|`(UN $a $b)=>`(@aE _ _ _ _ _ $a $b)
|`(YG $a)=>`(Heap.get?_push_of_some _ $a)
|`(Ζ $a $b $c $d)=>`(@bN _ _ _ _ _ _ _ _ _ _ _ _ _ _ _ _ $a $b (hr.mono (by decide)) $c $d (by rfl) (by rfl) (by rfl))
|`(HB $a)=>`(if_pos $a)
|`(Zo $a $b)=>`(@bb _ _ _ _ _ _ _ _ $a (@ao _ _ _ (@aN _ _ _ _ eI)) $b)
|`(ZK $a $b $c)=>`(@aB _ _ _ _ _ _ _ $a $b $c (fun _ _=>rfl))
|`(WK $a)=>`(Option.some.inj $a)
|`(Zg $a $b $c)=>`(@cj _ $a _ _ _ _ _ _ _ $b $c (by rfl) (by rfl))
|`(ZA $a)=>`(List.getElem?_append_left $a)
|`(θ $a)=>`(@ak _ _ _ _ _ $a (@ak _ _ _ _ _ (@aB _ _ _ _ _ _ _ (aq K) (@aB _ _ _ _ _ _ _ (aq K) (pv 0) ai (fun _ _=>rfl)) ai (fun _ _=>rfl)) (@ak _ _ _ _ _ (@aB _ _ _ _ _ _ _ (aq K) (pv 0) ai (fun _ _=>rfl)) af (by rfl)) (by rfl)) (by rfl))
|`(ι $a)=>`(@ak _ _ _ _ _ $a (@ak _ _ _ _ _ ai af (by rfl)) (by rfl))
|`(zr $a)=>`(@ak _ _ _ _ _ $a (@ak _ _ _ _ _ (pv 3) af (by rfl)) (by rfl))
|`(Ξ $a)=>`(@aB _ _ _ _ _ _ _ (aq K) (@aF _ K _ _ _ _ (pv 0) (by rfl) (by rfl)) $a (fun _ _=>rfl))
|`(ZF $a)=>`(List.getElem?_append_right $a)
|`(X' $a)=>`(@aN _ _ _ _ $a)
|`(Λ $a $b)=>`(@aH _ _ _ _ _ _ _ _ $a (@aB _ _ _ _ _ _ _ (aq K) (pv 2) ai (fun _ _=>rfl)) $b)
|`(ua $a)=>`(s.heap.update $a (Obj.mapSeq fun _=>(#[]:Array Value)))
|`(Y_ $a)=>`(@aY _ _ _ _ $a (by rfl))
|`(Β $a $b $c)=>`(@fI _ $a _ _ _ $b _ (by exact rfl) $c (by rfl) (by rfl) (by rfl))
|`(ZR $a)=>`(@cH _ _ _ $a (by intro _;rfl))
|`(Zp $a $b $c $d)=>`(PyProof.Rows.envOfC $a $b s.heap.objs.size $c $d)
|`(Hi $a)=>`(arrOf $a)
|`(ZI $a)=>`(List.mem_append_right _ $a)
|`(ZG $a $b)=>`(@a7 _ _ _ _ _ $a $b (by rfl))
|`(Yh $a $b $c)=>`(@bb _ _ _ _ _ _ _ _ $a $b $c)
|`(ZQ $a)=>`(List.getElem?_eq_getElem $a)
|`(ZL $a)=>`(List.mem_cons_of_mem _ $a)
|`(ο $a)=>`(@ak _ _ _ _ _ $a (@ak _ _ _ _ _ (@kr _ _ (.ty "list") _ _ (by exact rfl) T.lE PyProof.Rows.Boot.«list» (by exact rfl) (by decide) (by decide)) af (by rfl)) (by rfl))
|`(W0 $a)=>`(wpAny_pure $a)
|`(VN $a)=>`(pendingOf $a)
|`(ZH $a $b)=>`(@bf _ $a _ _ _ $b (by rfl))
|`(Xz $a)=>`(wpAny_bind $a)
|`(Ν $a $b $c)=>`(@iI _ _ _ _ _ _ $a (@aF _ K _ _ _ _ (pv 0) (by rfl) (by rfl)) $b $c)
|`(Zx $a $b)=>`(@aF _ $a _ _ _ _ $b (by rfl) (by rfl))
|`(Y8 $a)=>`(Heap.lt_size $a)
|`(χ $a)=>`(@ak _ _ _ _ _ $a (@ak _ _ _ _ _ (@aB _ _ _ _ _ _ _ (aq K) (pv 0) ai (fun _ _=>rfl)) af (by rfl)) (by rfl))
|`(Χ $a)=>`(@ak _ _ _ _ _ $a (@ak _ _ _ _ _ (pv 2) af (by rfl)) (by rfl))
|`(X_ $a)=>`(List.range $a)
|`(Zr $a)=>`(absurd $a Bool.false_ne_true)
|`(R6 $a)=>`(ar $a rfl)
|`(ω $a)=>`(@ak _ _ _ _ _ $a (@ak _ _ _ _ _ (@fH _ _ _ _ bQ (by rfl) (by decide)) af (by rfl)) (by rfl))
|`(η $a)=>`(@ak _ _ _ _ _ $a (@ak _ _ _ _ _ ai (@ak _ _ _ _ _ (@fH _ _ _ _ bQ (by rfl) (by decide)) af (by rfl)) (by rfl)) (by rfl))
|`(Zi $a $b)=>`(@pw_or _ _ _ _ _ _ _ $a $b)
|`(Ω $a)=>`(@fH _ _ _ _ $a (by rfl) (by decide))
|`(Ψ $a $b $c $d $e)=>`(@gL _ _ _ _ _ _ _ _ _ $a $b $c $d $e (by decide) (by decide) (by rfl) (by rfl))
|`(kU $a)=>`(backTo $a (starEach es X.env))
set_option hygiene false in
local macro_rules
|`(τ $a $b)=>`(@bb _ _ _ _ _ _ _ _ $a (@ao _ _ _ (@i8 _ _ _ _ _ _ _ _ _ _ hX (by exact rfl) (by exact rfl) bZ.m bZ.e (@ak _ _ _ _ _ dR af (by rfl)) (by decide) (by rfl) (by rfl))) $b)
|`(Wv $a)=>`(wpS_pure $a)
|`(ρ $a)=>`(seqEpoch_at $a rfl (wpAny_bind (wpAny_newTuple (wpAny_bind (wpAny_newList (wpAny_holding ?_) (Nat.zero_le _))) (by show vs.length≤_;rw[sizeLine_eq];lia))))
|`(V' $a $b)=>`(absurd $a $b)
|`(Zw $a)=>`(List.mem_append_left _ $a)
|`(UO $a)=>`(av.upd $a)
|`(Θ $a $b $c $d $e)=>`(PySem.W.kia_one $a $b $c $d (fun z=>nomatch z) $e)
|`(Zl $a $b)=>`(seqObj $a vs.toArray $b)
|`(ZJ $a)=>`(gg (arrOf st) $a)
|`(μ $a)=>`(@ak _ _ _ _ _ $a (@ak _ _ _ _ _ (@aF _ K _ _ _ _ (pv 0) (by rfl) (by rfl)) af (by rfl)) (by rfl))
|`(WR $a)=>`(Ne.symm $a)
|`(Zz $a $b $c $d)=>`(envOfC $a $b s.heap.objs.size $c $d)
|`(ν $a $b $c $d $e $f)=>`(@i8 _ _ _ _ _ _ _ _ _ _ $a $b $c $d $e $f (by decide) (by rfl) (by rfl))
|`(δ $a $b $c $d)=>`(@aG _ _ $a _ _ _ _ $b (by exact rfl) $c $d (by rfl) (by exact .inl rfl))
|`(ZC $a)=>`(@bL _ _ _ _ $a)
|`(Α $a)=>`(List.mem_iff_getElem.mp $a)
|`(ZM $a)=>`(Nat.ne_of_lt $a)
|`(uW $a)=>`(List.getElem?_eq_none $a)
|`(Γ $a)=>`(List.pairwise_append.mpr $a)
|`(Ο $a)=>`(backToKw $a (keywordEach [] X.env))
|`(Zu $a $b)=>`(Nat.lt_of_lt_of_le $a $b)
|`(ZN $a $b)=>`(Nat.le_trans $a $b)
|`(Zh $a)=>`(beq_iff_eq.mpr $a)
|`(ς $a)=>`(listItems_at $a rfl (wpAny_bind (listUpdate_at ho rfl ?_ (by rw[List.size_toArray,sizeLine_eq];lia) (Nat.zero_le _))))
|`(Zv $a)=>`(ws.getD $a (0,(0,0)))
|`(Zq $a)=>`(List.getElem_mem $a)
|`(ui $a)=>`(List.mem_of_mem_take $a)
|`(Zn $a)=>`(decide_eq_true $a)
|`(Zs $a)=>`(decide_eq_false $a)
|`(Zf $a $b)=>`(bF $a $b (by simp))
|`(Zm $a)=>`(@dU _ _ _ _ _ $a)
|`(Zy $a)=>`(absurd $a (by simp))
|`(Zt $a)=>`(List.mem_map.mp $a)
|`(Zk $a)=>`(Str.ofString $a)
|`(Zj $a)=>`(@PW.pt _ _ _ $a)
|`(Κ $a)=>`(List.pairwise_append.mp $a)
|`(qV $a)=>`(List.mem_map.mpr $a)
|`(Ι $a $b)=>`(i5 $a $b (by intro z;cases z))
|`(Μ $a $b $c)=>`(@eA _ _ _ _ _ _ $a $b $c (by rfl))
|`(ξ $a $b $c $d)=>`(@su _ _ _ _ _ _ _ _ _ _ _ _ _ _ $a $b $c $d (by rfl) (by decide) (by rfl) (by rfl))
set_option hygiene false in
local macro_rules
|`(D9)=>`((by lia))
|`(Wa)=>`((fun vs H Q E h=>?_))
|`(Mi)=>`((by simp))
|`(YH)=>`((Nat.le_refl _))
|`(υ)=>`((wpAny_attempt (wpAny_callSpecial?_slot (name:=Zk "__next__") T F.slot_dict_valueiterator_next (wpAny_call_entry F.slot_dict_valueiterator_next T F.entry_dict_valueiterator_next ?_ (F.args_dict_valueiterator_next_1 _)))))
|`(abU)=>`((wpAny_callSpecial?_slot (name:=Zk "__next__") T F.slot_dict_valueiterator_next (wpAny_call_entry F.slot_dict_valueiterator_next T F.entry_dict_valueiterator_next ?_ (F.args_dict_valueiterator_next_1 _))))
|`(γ)=>`((f6 X scope (ls++cs) s3 H3 s3.heap.objs.size fp (X.pn++pins)))
|`(ZE)=>`((by exact rfl))
|`(Rl)=>`((pv 1))
|`(Ρ)=>`((f6 X scope (ls++cs) dA eU C fp pn))
|`(V7)=>`((pv 0))
|`(Zc)=>`((by simp;lia))
|`(ζ)=>`((bp "into" (.int c.into) (bp "out" (.int c.out) [])))
|`(Δ)=>`((he pins s σ H _ I h))
|`(W4)=>`((pv 2))
|`(W5)=>`((pv 3))
|`(ZD)=>`((aP (i,j)))
|`(Τ)=>`((fun hh=>V' hh (by simp[bB])))
|`(ZO)=>`((by decide))
|`(Η)=>`((ha pins s σ H _ I h))
|`(ε)=>`((wpS_lift (wpAny_rule ⟨rfl,?_⟩)))
|`(Ε)=>`((Bq f o p i (j+1)))
|`(Y6)=>`((lf f))
|`(Xr)=>`((pv 4))
|`(Zd)=>`((by omega))
|`(ZP)=>`((iz c []))
|`(Nn)=>`(by decide)
|`(XR)=>`(by rfl)
|`(IM)=>`(by simp)
set_option maxHeartbeats 4000000
namespace HD
open PySem PySem.W PyProof.Rows
noncomputable section
noncomputable abbrev pw:Program:=PySem.Challenge.pw_quotefind_k23_backwards
noncomputable abbrev pq:Program:=pw
theorem Wi:pw=pq:=rfl
def z0:Str:=⟨⟨[60,109,111,100,117,108,101,62]⟩⟩
def z1:Str:=⟨⟨[95,95,109,97,105,110,95,95]⟩⟩
def Ur:Str:=⟨⟨[47,99,108,97,105,109,47,99,117,116,46,112,121]⟩⟩
noncomputable abbrev y0:String:=PySem.W.SL.s658472552662922059x5
noncomputable abbrev Wj:String:=PySem.W.SL.s5856160107412720595x4
noncomputable abbrev R(a:Addr):Value:= .ref a
noncomputable abbrev I(i:Int):Value:= .int i 0
noncomputable abbrev N:Value:= .none
noncomputable abbrev U(v:Value):Option Value:=some v
noncomputable abbrev B:=BT.node
noncomputable abbrev L:=BT.nil
noncomputable abbrev tu(l:List Value):Obj:=⟨.type "tuple",none, .seq ⟨l⟩ 0,⟨[]⟩⟩
noncomputable abbrev fi(l:List Value):Obj:=⟨.none,none, .fields ⟨l⟩,⟨[]⟩⟩
noncomputable abbrev cd(n:Str)(t:Nat)(l a f:Int)(r8:Addr)(b:Bool)(Wl:Addr)(Wm Wn Wo:Value)(t3:Int)(t4:Nat):Obj:=⟨.type Wj,none, .fields ⟨[.str n t, .str n (t+1), .str Ur (t+2),I l,I a,I 0,I 0,I f,R r8, .bool b,I 181,R Wl,N,Wm,Wn,Wo,I t3,I l, .str Ur t4]⟩,⟨[]⟩⟩
noncomputable def tp(p:Program)(i:Nat):Stmt:=p.main.body.getD i (.Pass ⟨0,0,0,0⟩)
noncomputable def b0(_:Program)(P:Params):Obj:=PySem.W.boot_o_0 P
noncomputable def b1(_:Program)(P:Params):Obj:=PySem.W.boot_o_1 P
noncomputable def b2(_:Program)(P:Params):Obj:=PySem.W.boot_o_2 P
noncomputable def b3(_:Program)(P:Params):Obj:=PySem.W.boot_o_3 P
noncomputable def b4(_:Program)(P:Params):Obj:=PySem.W.boot_o_4 P
noncomputable def b5(_:Program)(P:Params):Obj:=PySem.W.boot_o_5 P
noncomputable def b6(_:Program)(P:Params):Obj:=PySem.W.boot_o_6 P
noncomputable def b7(_:Program)(P:Params):Obj:=PySem.W.boot_o_7 P
noncomputable def b8(_:Program)(P:Params):Obj:=PySem.W.boot_o_8 P
noncomputable def b9(_:Program)(P:Params):Obj:=PySem.W.boot_o_9 P
noncomputable def Us(_:Program)(P:Params):Obj:=PySem.W.boot_o_10 P
noncomputable def Ut(p:Program)(P:Params):Obj:=tu []
noncomputable def Uu(p:Program)(P:Params):Obj:=fi []
noncomputable def Uv(p:Program)(P:Params):Obj:=cd z0 182 1 0 0 11 false 12 N N N 185 186
noncomputable def Uw(p:Program)(P:Params):Obj:=⟨(.type y0),none,.plain,⟨[U (R 13),U (R 3),U (R 3),none,U (.str z1 164),none,U (R 0)]⟩⟩
noncomputable def La(p:Program)(P:Params):List Obj:=[b0 p P,b1 p P,b2 p P,b3 p P,b4 p P,b5 p P,b6 p P,b7 p P,b8 p P,b9 p P,Us p P,Ut p P,Uu p P,Uv p P,Uw p P]
noncomputable def Ta(p:Program)(P:Params):BT:=(B (b0 p P) (B (b1 p P) (B (b3 p P) (B (b7 p P) L L) (B (Ut p P) L L)) (B (b5 p P) (B (b9 p P) L L) (B (Uv p P) L L))) (B (b2 p P) (B (b4 p P) (B (b8 p P) L L) (B (Uu p P) L L)) (B (b6 p P) (B (Us p P) L L) (B (Uw p P) L L))))
noncomputable def keep:List Nat:=[0,2,3,4,5,7,8,9,11,12,13,14,16,17,19,20,21,22,23,24,25,27,28,29,31,32,33,34,35,36,37,38,40,41,42,43,44,45,46,47,48,49,50,51,52,53,54,55,56,57,58]
noncomputable def loose:List Str:=[]
noncomputable def env(p:Program):Env:={scope:=p.main.scope,locals:=mainNs,globals:=mainNs,cells:=[],code:=(R 13),frame:=some 14}
noncomputable def cE(p:Program):Code:= .body (behindTheImports p) (env p)
noncomputable def qP:Pos:=⟨0,0,0,0⟩
noncomputable def pP:Pos:=⟨0,0,0,0⟩
noncomputable def bP:Pos:=⟨0,0,0,0⟩
noncomputable def fP:Pos:=⟨416,0,432,15⟩
noncomputable def an:Option Value:=(some (R 6))
noncomputable abbrev MZ:Nat:=58
noncomputable abbrev m0:Nat:=11
noncomputable abbrev M0:Nat:=12
noncomputable abbrev M4:Nat:=1
noncomputable abbrev JS:Nat:=3737
noncomputable abbrev JT:Nat:=2
noncomputable abbrev JU:Nat:=8198
noncomputable abbrev nA:Nat:=15
noncomputable abbrev Wq:Nat:=187
noncomputable abbrev Wr:Nat:=187
end
end HD
namespace HD
open PySem PySem.W PyProof.Rows
noncomputable section
abbrev S0(w:World)(os:OsState):Shared:=⟨boot_heap w.params,⟨[]⟩,boot_drawn,boot_toks,os⟩
abbrev Sa(p:Program)(w:World)(os:OsState):Shared:=⟨⟨⟨La p w.params⟩,{}⟩,⟨[]⟩,{},Wq,os⟩
abbrev Sb(p:Program)(w:World)(os:OsState):SharedT:=⟨Ta p w.params,nA,{},⟨[]⟩,{},Wr,os⟩
abbrev q(p:Program):Program:=view p keep
abbrev Xt(p:Program)(R:WRecords):Shared→Bool:=fun s=>xlAt (q p) [] s&&recOk R s
theorem M5(w:World)(os:OsState):topGo treeTable pq w m0 an M0 (S0 w os) (topStub pq)=some (Sa pq w os,⟨denote treeTable (cE pq),cE pq,pP,[topFrame qP]⟩):=by
 rewrite[Fast.te15667345088766844465,Fast.te14364793385576792824,Fast.te11892475500146522536];kernel_rfl
theorem M6(w:World)(os:OsState):segRun treeTable pq w m0 an 1 M4 (Sa pq w os) (blockOf (behindTheImports pq) (env pq) (cE pq) pP [topFrame qP])=some (.next,(Sb pq w os).abs,cE pq,bP):=by
 rewrite[Fast.te14374325043358763698,Fast.te14364793385576792824];kernel_rfl
def Rm(w:World)(os:OsState):=Fast.tw10110043849684766642 Fast.tw14364793385576792824 pq w m0 an 1 JS (Sb pq w os) (piecesOf (behindTheImports pq) (env pq) (cE pq) bP [topFrame qP])
def Sm(w:World)(os:OsState):SharedT:=match Rm w os with|some (_,s,_,_)=>s|none=>Sb pq w os
theorem M7(w:World)(os:OsState):segRunT treeTable pq w m0 an 1 JS (Sb pq w os) (piecesOf (behindTheImports pq) (env pq) (cE pq) bP [topFrame qP])=some (.next,Sm w os,cE pq,fP):=by
 rewrite[Fast.te10110043849684766642,Fast.te14364793385576792824];kernel_rfl
def Rf(w:World)(os:OsState):=Fast.tw14082659384304107361 Fast.tw14364793385576792824 pq w m0 an JT (Sm w os).abs ⟨doneF .next,cE pq,fP,[topFrame qP]⟩
def Sf(w:World)(os:OsState):Shared:=match Rf w os with|some s=>s|none=>S0 w os
theorem M8(w:World)(os:OsState):topRun treeTable pq w m0 an JT (Sm w os).abs ⟨doneF .next,cE pq,fP,[topFrame qP]⟩=some (Sf w os):=by
 rewrite[Fast.te14082659384304107361,Fast.te14364793385576792824];kernel_rfl
theorem JV(w:World):((boot_heap w.params).isNs mainGlobals&&(⟨[]⟩:Array GenState).size==0,(boot_heap w.params).objs.size,(boot_heap w.params).nsMap mainGlobals "__annotations__")=(true,m0,an):=by
 rewrite[Fast.te8920871248978507458];kernel_rfl
theorem JW:∀w:World,(fencedOpening treeTable pq w JU).map (fun s=>(s.heap,s.gens,s.drawn,s.toks))=some (boot_heap w.params,⟨[]⟩,boot_drawn,boot_toks):=
 boot_open (by kernel_rfl) (by kernel_rfl) (fun s=>by kernel_rfl)
theorem M9(w:World)(os:OsState):topRun treeTable pq w m0 an (M0+(M4+(JS+JT))) (S0 w os) (topStub pq)=some (Sf w os):=by
 refine go_top (M5 w os) (piece_block (M6 w os) ?_);have h:=piece_app (rest:=[]) (segRun_of (M7 w os)) (piece_nil (env:=env pq) (M8 w os));rw[List.append_nil]at h;exact h
theorem DK(w:World)(os:OsState):
 (staticsOk (importedModules pq.main.body) (boot_heap w.params) (Sf w os).heap&&namesBound pq (Sf w os).heap&&gensDone (Sf w os)&&laidKept (boot_heap w.params) (Sf w os).heap)=true
 ∧seen ((recsOf (q pq)).map (·.name)) (ownsOf (q pq)) [] {Sf w os with gens:=#[]}=expectedOf (q pq)
 ∧(Sf w os).heap.bltView=bltViewBooted:=by
 refine⟨?_,?_,?_⟩
 ·rewrite[Fast.te5923862056798008813];kernel_rfl
 ·rewrite[Fast.te5160383126252970620,Fast.te3399658132070893891,Fast.te5991557255702980513];kernel_rfl
 ·kernel_rfl
theorem JX(w:World)(os:OsState):
 ((Sf w os).heap.keysOk (looseW (q pq) loose) ((recsOf (q pq)).map (·.name)) ((litsOf (q pq)).map (·.1)) ((clssOf (q pq) (looseW (q pq) loose)).map (·.name))&&(Sf w os).heap.accountedOkI (importedModules pq.main.body)&&(Sf w os).heap.isNs mainGlobals&&(Sf w os).heap.isNs builtinsNs&&tablesOk (q pq) (Sf w os).heap&&Xt pq [] (Sf w os)&&(if true then(Sf w os).gens.size==0 else !leftWithCleanup (Sf w os).gens))=true:=by
 rewrite[Fast.te10880121769531294198,Fast.te821141287760084731,Fast.te3399658132070893891,Fast.te7409074990110511671,Fast.te13664370479719496447,Fast.te14722251495701143533,Fast.te5923862056798008813,Fast.te10994771534591457954];kernel_rfl
theorem JY(w:World)(os:OsState):
 tabsOk (q pq) (Sf w os)=true
 ∧pinSeenD (q pq) (drecsOf (q pq)) (Sf w os)=pinGoodD (drecsOf (q pq))
 ∧plainSeenE (q pq) (looseW (q pq) loose) (Sf w os)=plainGoodE (q pq) (looseW (q pq) loose)
 ∧plainSeenD (q pq) loose (Sf w os)=plainGoodD (q pq) loose
 ∧wideSeen (q pq) (Sf w os)=wideGood (q pq)
 ∧clsSeenW (q pq) loose (Sf w os)=clsGoodW (q pq) loose:=by
 refine⟨?_,?_,?_,?_,?_,?_⟩
 ·rewrite[Fast.te479339242167458305];kernel_rfl
 ·rewrite[Fast.te16090120013241838585,Fast.te3247288618530077131];kernel_rfl
 ·rewrite[Fast.te2386780881361962483,Fast.te821141287760084731];kernel_rfl
 ·rewrite[Fast.te11698064438423848299];kernel_rfl
 ·rewrite[Fast.te7317090234206586261];kernel_rfl
 ·rewrite[Fast.te7369524293546568484];kernel_rfl
theorem lx{p q:Program}{lo:List Str}{Xt:Shared→Bool}{α:Type}{Yf:Shared→α}{a:α}{w:World}{N M n:Nat}{h:Heap}{gs:Array GenState}{dr:Drawn}{k:Nat}{an:Option Value}{g:OsState→Shared}
  (o:(fencedOpening treeTable p w N).map (fun s=>(s.heap,s.gens,s.drawn,s.toks))=some (h,gs,dr,k)) (z:(h.isNs mainGlobals&&gs.size==0,h.objs.size,h.nsMap mainGlobals "__annotations__")=(true,n,an))
  (r:∀os,topRun treeTable p w n an M ⟨h,gs,dr,k,os⟩ (topStub p)=some (g os)) (le:M≤N) (x1:∀os,(staticsOk (importedModules p.main.body) h (g os).heap&&namesBound p (g os).heap&&gensDone (g os)&&laidKept h (g os).heap)=true)
  (x2:∀os,openSeen q lo (importedModules p.main.body) Xt true (g os)=openGood q lo) (x3:∀os,Yf (g os)=a):(openEnds treeTable p w N).map (fun s=>(openSeen q lo (importedModules p.main.body) Xt true s,Yf s))=some (openGood q lo,a):=by
 obtain⟨⟨h,gs,dr,k,os⟩,e1,e2⟩:=Option.map_eq_some_iff.mp o;cases e2;obtain⟨y1,y2⟩:=Prod.mk.inj z;obtain⟨y2,y3⟩:=Prod.mk.inj y2;have t:=topRun_mono (N-M) _ _ _ _ (r os);rw[Nat.add_sub_cancel' le]at t;have f:topFrom treeTable p w N ⟨h,gs,dr,k,os⟩=some (g os):=by
  unfold topFrom;dsimp only;rw[y1,y2,y3,t];show(match staticsOk _ h (g os).heap&&namesBound p (g os).heap&&gensDone (g os)&&laidKept h (g os).heap with|true=>_|false=>_)=_;rw[x1 os]
 unfold openEnds;rw[e1,Option.bind_some,f];exact congrArg some (Prod.ext (x2 os) (x3 os))
theorem left(p:Program)(e:p=pq)(H:Hook)(hk:∀w os,H.obs (Sf w os)=H.val w):LeftO p (q p) loose (Xt p []) H.obs H.val JU:=by
 subst e;intro w;exact lx (g:=Sf w) (JW w) (JV w) (M9 w) (Nn) (fun os=>(DK w os).1) (fun os=>let ⟨_,x2,x3⟩:=DK w os;let ⟨x5,x6,x7,x8,x9,x0⟩:=JY w os;looks_pair x2 (looks_pair x3 (looks_pair (JX w os) (looks_pair x5 (looks_pair x6 (looks_pair x7 (looks_pair x8 (looks_pair x9 x0)))))))) (hk w)
def d:DefRec:=match tp pw MZ with
 | .FunctionDef n a b _ _ _ sc _ _ ps=>⟨n,a,b,sc,ps⟩
 | _=>⟨Str.empty,default,[],default,default⟩
end
end HD
namespace HD
theorem ws:PySem.W.OpenLaw.wellSaid PySem.Challenge.rw_quotefind_k23_backwards=true:=by
 rewrite[PySem.W.Fast.te9446332074065402090];kernel_rfl
end HD
namespace L2
open PySem PySem.Spec PyProof.Rows
abbrev Key:=Sum Int Str
def vn:Key→Value→Bool
 | .inl k,v=>Value.isInt k v
 | .inr x,v=>Value.isStrOf x v
def Q3(w:World):Key→Int
 | .inl k=>hashInt k
 | .inr x=>hashStr w x
theorem cW:∀{k:Key}{v:Value},vn k v=true→(∃i t,k=Sum.inl i∧v=Value.int i t)∨(∃x t,k=Sum.inr x∧v=Value.str x t)
 | .inl i,v,h=>by
  obtain⟨t,e⟩:=Value.isInt_shape (k:=i) (v:=v) h;exact .inl ⟨i,t,rfl,e⟩
 | .inr x,v,h=>by
  obtain⟨t,e⟩:=Value.isStrOf_shape (x:=x) (v:=v) h;exact .inr ⟨x,t,rfl,e⟩
theorem B1(i:Int)(t:Tok):vn (.inl i) (.int i t)=true:=by simp[vn,Value.isInt]
theorem B2(x:Str)(t:Tok):vn (.inr x) (.str x t)=true:=by simp[vn,Value.isStrOf]
theorem JZ(a b:Int):decide ((Sum.inl a:Key)=Sum.inl b)=(a==b):=by
 by_cases e:a=b
 ·subst e;simp
 ·have h:¬(Sum.inl a:Key)=Sum.inl b:=fun q=>e (Sum.inl.inj q)
  rw[Zs h];exact(beq_eq_false_iff_ne.mpr e).symm
theorem J0(a b:Str):decide ((Sum.inr a:Key)=Sum.inr b)=decide (a=b):=by
 by_cases e:a=b
 ·subst e;simp
 ·have h:¬(Sum.inr a:Key)=Sum.inr b:=fun q=>e (Sum.inr.inj q)
  rw[Zs h,Zs e]
theorem J1(a:Int)(b:Str):decide ((Sum.inl a:Key)=Sum.inr b)=false:=Zs (fun q=>nomatch q)
theorem J2(a:Str)(b:Int):decide ((Sum.inr a:Key)=Sum.inl b)=false:=Zs (fun q=>nomatch q)
def cX(prog:Program)(w:World):PySem.KeyKind prog w Key where
 is:=vn
 hash:=Q3 w
 inj:=fun v a b ha hb=>by
  rcases cW ha with⟨i,t,rfl,rfl⟩|⟨x,t,rfl,rfl⟩
  ·rcases cW hb with⟨j,u,rfl,e⟩|⟨y,u,rfl,e⟩
   ·injection e with e1 _;rw[e1]
   ·exact nomatch e
  ·rcases cW hb with⟨j,u,rfl,e⟩|⟨y,u,rfl,e⟩
   ·exact nomatch e
   ·injection e with e1 _;rw[e1]
 byValue:=fun k v h=>by
  rcases cW h with⟨i,t,rfl,rfl⟩|⟨x,t,rfl,rfl⟩<;>rfl
 pyHash:=fun hv h=>by
  rcases cW hv with⟨i,t,rfl,rfl⟩|⟨x,t,rfl,rfl⟩
  ·exact wpAny_pyHash_int h
  ·exact wpAny_pyHash_str h
 eqBool:=fun hu hv h=>by
  rcases cW hu with⟨i,t,rfl,rfl⟩|⟨x,t,rfl,rfl⟩
  ·rcases cW hv with⟨j,u,rfl,rfl⟩|⟨y,u,rfl,rfl⟩
   ·rw[JZ]at h;exact wpAny_eqBool_int h
   ·rw[J1]at h;exact SeqAt.EqAt.int_str i t y u _ _ _ _ h
  ·rcases cW hv with⟨j,u,rfl,rfl⟩|⟨y,u,rfl,rfl⟩
   ·rw[J2]at h;exact SeqAt.EqAt.str_int x t j u _ _ _ _ h
   ·rw[J0]at h;exact wpAny_eqBool_str h
 «strs»:=fun k x t v h=>by
  rcases cW h with⟨i,u,rfl,e⟩|⟨y,u,rfl,e⟩
  ·exact nomatch e
  ·injection e with e1 _;subst e1;cases v<;>rfl
theorem yh(prog:Program)(w:World)(i:Int)(t:Tok):(cX prog w).is (.inl i) (.int i t)=true:=B1 i t
theorem yi(prog:Program)(w:World)(x:Str)(t:Tok):(cX prog w).is (.inr x) (.str x t)=true:=B2 x t
inductive V where
 |cJ|bl (b:Bool)|int (i:Int)|str (x:Str)|B4 (b:Array UInt8)|IE (b:UInt64)|ref (a:Addr)|ty (n:String)
 deriving DecidableEq
def RelV:V→Value→Prop
 | .cJ,u=>u=Value.none
 | .bl b,u=>u=Value.bool b
 | .int i,u=>∃t,u=Value.int i t
 | .str x,u=>∃t,u=Value.str x t
 | .B4 b,u=>∃t,u=Value.bytes b t
 | .IE b,u=>∃t,u=Value.float b t
 | .ref a,u=>u=Value.ref a
 | .ty n,u=>u=Value.type n
abbrev Vals:List V→List Value→Prop:=Paired RelV
theorem Vals.length{xs:List V}{us:List Value}(r:Vals xs us):xs.length=us.length:=Paired.length r
theorem Vals.get:∀{xs:List V}{us:List Value}{i:Nat}{x:V},Vals xs us→xs[i]?=some x→∃u,us[i]?=some u∧RelV x u
 | _,_,_,_, .nil,e=>by simp at e
 | _,_,0,_, .cons r _,e=>by simp at e;subst e;exact⟨_,rfl,r⟩
 | _,_,i+1,x, .cons _ t,e=>by
  obtain⟨u,h1,h2⟩:=Vals.get (i:=i) (x:=x) t (by simpa using e);exact⟨u,by simpa using h1,h2⟩
theorem Vals.set{x:V}{u:Value}(r:RelV x u):∀{xs:List V}{us:List Value}(i:Nat),Vals xs us→Vals (xs.set i x) (us.set i u)
 | _,_,_, .nil=> .nil
 | _,_,0, .cons _ t=> .cons r t
 | _,_,i+1, .cons q t=> .cons q (Vals.set r i t)
theorem Vals.append:∀{xs ys:List V}{us ws:List Value},Vals xs us→Vals ys ws→Vals (xs++ys) (us++ws)
 | _,_,_,_, .nil,s=>s
 | _,_,_,_, .cons r t,s=> .cons r (Vals.append t s)
theorem Vals.take:∀{xs:List V}{us:List Value}(n:Nat),Vals xs us→Vals (xs.take n) (us.take n)
 | _,_,0,_=> .nil
 | _,_,_+1, .nil=> .nil
 | _,_,n+1, .cons r t=> .cons r (Vals.take n t)
theorem Vals.drop:∀{xs:List V}{us:List Value}(n:Nat),Vals xs us→Vals (xs.drop n) (us.drop n)
 | _,_,0,r=>r
 | _,_,_+1, .nil=> .nil
 | _,_,n+1, .cons _ t=>Vals.drop n t
def kq:Option V→Option Value→Prop
 |some v,some u=>RelV v u
 |none,none=>True
 | _,_=>False
def KV{κ:Type}:List (κ×V)→List (κ×Value)→Prop:=Paired fun(p:κ×V)(q:κ×Value)=>p.1=q.1∧RelV p.2 q.2
def kV:Key→V
 | .inl i=> .int i
 | .inr x=> .str x
inductive HO where
 |lst (xs:List V)
 |tup (xs:List V)
 |dK (kvs:List (Key×V))|dT (kvs:List (List Key×V))
 |set (S:Int→Bool) (n:Nat)
 |ins (C dx:Addr) (fs:List (Str×V))
 |own (x:Addr)
 |xd (fs:List (Str×V))
 |met (f x:Addr)
 |PK (lo hi:Int)
 |sj (o:Obj) (u:HO)
 |GF (ps:Array Value)
 |ext (φ:Heap→Prop)
abbrev Hp:=Addr→Option HO
def upd(H:Hp)(a:Addr)(o:HO):Hp:=fun b=>if b=a then some o else H b
theorem ae{H:Hp}{a:Addr}{o:HO}:upd H a o a=some o:=by unfold upd;rw[if_pos rfl]
theorem aj{H:Hp}{a b:Addr}{o:HO}(h:b≠a):upd H a o b=H b:=by unfold upd;rw[Dt h]
theorem fZ{H:Hp}{a:Addr}{o u:HO}:upd (upd H a o) a u=upd H a u:=by
 funext b;unfold upd;split<;>rfl
theorem i5{H:Hp}{a b:Addr}{o u:HO}(h:H a=some o)(h':H b=some u)(d:o≠u):a≠b:=by
 intro e;subst e;rw[h]at h';exact d (WK h')
theorem aC{H:Hp}{a b:Addr}{o:HO}(h:H a=some o)(h':H b=none):a≠b:=by
 intro e;subst e;rw[h]at h';cases h'
section
variable(P:Program)(w:World)
def cL(H:Hp)(h:Heap)(a:Addr):HO→Prop
 | .lst xs=>xs.length≤sizeLine∧∃(its:List Value)(n:Nat),Vals xs its∧h.get? a=some {cls:= .type "list",data:= .seq its.toArray n}
 | .tup xs=>xs.length≤sizeLine∧∃its:List Value,Vals xs its∧IsTup h a its.toArray
 | .dK kvs=>kvs.length≤sizeLine∧(a==sysModules)=false∧∃vs,KV kvs vs∧h.DictOf (cX P w) a vs
 | .dT kvs=>kvs.length≤sizeLine∧(a==sysModules)=false∧∃xs:List (List Key×Addr×Value),
   Paired (fun(p:List Key×V)(q:List Key×Addr×Value)=>p.1=q.1∧H q.2.1=some (.tup (p.1.map kV))∧RelV p.2 q.2.2) kvs xs∧
   ∃o es ep,h.get? a=some o∧o.ExactDict∧o.data= .dict es ep∧es.toList=xs.map (entryOfKey (tupleKind (cX P w)))∧(xs.map (·.1)).Nodup
 | .set S n=>h.SetOf (intKind P w) a S n
 | .ins C dx fs=>H dx=some (.own a)∧fs.length≤1000∧dx≠a∧h.get? a=some (PySem.W.instObj C dx)∧
   ∃mA,h.Ns1 dx mA∧(∀f,kq (fs.lookup f) (mA f))∧PySem.Within mA (fs.map (·.1))
 | .own _=>∃o,h.get? a=some o
 | .xd fs=>∃mA,h.Ns1 a mA∧∀f,kq (fs.lookup f) (mA f)
 | .PK lo hi=>∃t u v,h.get? a=some {cls:= .type "range",data:= .fields #[.int lo t, .int hi u, .int 1 v]}
 | .sj o u=>h.get? a=some o∧cL H h a u
 | .GF ps=>h.get? a=some {cls:= .none,data:= .fields ps}
 | .met f x=>h.get? a=some (PySem.W.methodObj (.ref f) (.ref x))
 | .ext φ=>φ h∧(∃o,h.get? a=some o)∧∀h1 h2:Heap,φ h1→(∀o,h1.get? a=some o→h2.get? a=some o)→φ h2
def lz(H:Hp)(h:Heap):Prop:=∀a o,H a=some o→cL P w H h a o
end
section
variable{P:Program}{w:World}{H H':Hp}{h h':Heap}{a:Addr}{o:HO}
theorem cL.lt(x:cL P w H h a o):a<h.objs.size:=by
 cases o with
 |lst xs=>obtain⟨_,_,_,_,e⟩:=x;exact Y8 e
 |tup xs=>obtain⟨_,_,_,p⟩:=x;exact p.lt
 |dK kvs=>obtain⟨_,_,_,_,o,_,_,e,_⟩:=x;exact Y8 e
 |dT kvs=>obtain⟨_,_,_,_,o,_,_,e,_⟩:=x;exact Y8 e
 |set S n=>obtain⟨o,_,_,_,e,_⟩:=x;exact Y8 e
 |ins C dx fs=>obtain⟨_,_,_,e,_⟩:=x;exact Y8 e
 |own y=>obtain⟨_,e⟩:=x;exact Y8 e
 |xd fs=>obtain⟨_,⟨_,_,_,e,_⟩,_⟩:=x;exact Y8 e
 |PK lo hi=>obtain⟨_,_,_,e⟩:=x;exact Y8 e
 |sj ob u=>obtain⟨e,_⟩:=x;exact Y8 e
 |GF ps=>exact Y8 (show h.get? a=some _ from x)
 |met f y=>exact Y8 (show h.get? a=some _ from x)
 |ext φ=>obtain⟨_,⟨_,e⟩,_⟩:=x;exact Y8 e
theorem Paired.J3{α β:Type}{F G:α→β→Prop}:∀{M_:List α}{Na:List β},Paired F M_ Na→(∀a b,F a b→G a b)→Paired G M_ Na
 | _,_, .nil,_=> .nil
 | _,_, .cons r t,f=> .cons (f _ _ r) (Paired.J3 t f)
theorem cL.v9(x:cL P w H h a o)(k:∀b u,(b=a∨H b=some (.own a))→h.get? b=some u→h'.get? b=some u)
  (ho:∀b,H b=some (.own a)→H' b=some (.own a)) (ht:∀b xs,H b=some (.tup xs)→H' b=some (.tup xs)):cL P w H' h' a o:=by
 induction o with
 |lst xs=>obtain⟨z,its,n,r,e⟩:=x;exact⟨z,its,n,r,k _ _ (.inl rfl) e⟩
 |tup xs=>obtain⟨z,its,r,ob,e,c⟩:=x;exact⟨z,its,r,ob,k _ _ (.inl rfl) e,c⟩
 |dK kvs=>obtain⟨z,y,vs,r,ob,es,ep,e,c⟩:=x;exact⟨z,y,vs,r,ob,es,ep,k _ _ (.inl rfl) e,c⟩
 |dT kvs=>
  obtain⟨z,y,xs,r,ob,es,ep,e,c⟩:=x;exact⟨z,y,xs,Paired.J3 r fun p q z=>⟨z.1,ht _ _ z.2.1,z.2.2⟩,ob,es,ep,k _ _ (.inl rfl) e,c⟩
 |set S n=>obtain⟨ob,es,ep,t,e,c⟩:=x;exact⟨ob,es,ep,t,k _ _ (.inl rfl) e,c⟩
 |ins C dx fs=>
  obtain⟨d,z,ne,e,mA,⟨od,es,ep,e2,c⟩,r⟩:=x;exact⟨ho _ d,z,ne,k _ _ (.inl rfl) e,mA,⟨od,es,ep,k _ _ (.inr d) e2,c⟩,r⟩
 |own y=>obtain⟨ob,e⟩:=x;exact⟨ob,k _ _ (.inl rfl) e⟩
 |xd fs=>obtain⟨mA,⟨od,es,ep,e,c⟩,r⟩:=x;exact⟨mA,⟨od,es,ep,k _ _ (.inl rfl) e,c⟩,r⟩
 |PK lo hi=>obtain⟨t,u,v,e⟩:=x;exact⟨t,u,v,k _ _ (.inl rfl) e⟩
 |sj ob u ih=>obtain⟨e,q⟩:=x;exact⟨k _ _ (.inl rfl) e,ih q⟩
 |GF ps=>
  have e:h.get? a=some {cls:= .none,data:= .fields ps}:=x;show h'.get? a=some {cls:= .none,data:= .fields ps};exact k a _ (.inl rfl) e
 |met f y=>
  have e:h.get? a=some (PySem.W.methodObj (.ref f) (.ref y)):=x;show h'.get? a=some (PySem.W.methodObj (.ref f) (.ref y));exact k a _ (.inl rfl) e
 |ext φ=>obtain⟨p,⟨o,e⟩,st⟩:=x;exact⟨st _ _ p fun o q=>k _ _ (.inl rfl) q,⟨o,k _ _ (.inl rfl) e⟩,st⟩
theorem lz.lt(x:lz P w H h)(e:H a=some o):a<h.objs.size:=(x a o e).lt
theorem lz.fresh(x:lz P w H h)(e:h.objs.size≤a):H a=none:=by
 cases q:H a with
 |none=>rfl
 |some u=>exact V' (Zu (x.lt q) e) (Nat.lt_irrefl _)
theorem lz.kept(x:lz P w H h)(k:∀b u,h.get? b=some u→h'.get? b=some u):lz P w H h':=fun a o e=>
 (x a o e).v9 (fun b u _ q=>k b u q) (fun _ q=>q) fun _ _ q=>q
theorem lz.laid(x:lz P w H h)(k:∀b u,h.get? b=some u→h'.get? b=some u)(hp:h.objs.size≤a)(new:cL P w (upd H a o) h' a o):lz P w (upd H a o) h':=fun b u e=>by
 have hn:=x.fresh hp;by_cases hb:b=a
 ·subst hb;rw[ae]at e;cases e;exact new
 ·rw[aj hb]at e;exact(x b u e).v9 (fun c v _ q=>k c v q) (fun c q=>by rw[aj (aC q hn)];exact q) fun c xs q=>by rw[aj (aC q hn)];exact q
end
def Rd(H:Hp)(a:Addr)(u:HO):Prop:=H a=some u∨∃o,H a=some (.sj o u)
theorem Rd.of{H:Hp}{a:Addr}{u:HO}(h:H a=some u):Rd H a u:= .inl h
theorem Rd.ok{P:Program}{w:World}{H:Hp}{h:Heap}{a:Addr}{u:HO}(r:Rd H a u)(x:lz P w H h):cL P w H h a u:=by
 rcases r with r|⟨o,r⟩
 ·exact x a u r
 ·obtain⟨_,q⟩:=x a _ r;exact q
def Nb:Option HO→Prop
 |some (.lst _)=>True
 |some (.dK _)=>True
 |some (.dT _)=>True
 |some (.set _ _)=>True
 |some (.ins _ _ _)=>True
 |some (.ext _)=>True
 | _=>False
section
variable{P:Program}{w:World}{H:Hp}{h h':Heap}{x e:Addr}{o':HO}
theorem lz.write(ok:lz P w H h)(mu:Nb (H x))(he:e=x∨H e=some (.own x))(k:∀b u,b≠e→h.get? b=some u→h'.get? b=some u)(Mj:∃u,h'.get? e=some u)
  (new:cL P w (upd H x o') h' x o'):lz P w (upd H x o') h':=fun b u q=>by
 have Nc:∀c y,H c=some (.own y)→c≠x:=fun c y r z=>by subst z;rw[r]at mu;exact mu
 have Q4:∀c xs,H c=some (.tup xs)→c≠x:=fun c xs r z=>by subst z;rw[r]at mu;exact mu
 by_cases hb:b=x
 ·subst hb;rw[ae]at q;cases q;exact new
 ·rw[aj hb]at q;by_cases J4:b=e
  ·have q':H b=some (.own x):=by
    rcases he with z|z
    ·exact V' (J4.trans z) hb
    ·rw[J4];exact z
   rw[q]at q';cases q';obtain⟨v,hv⟩:=Mj;exact⟨v,by rw[J4];exact hv⟩
  ·refine(ok b u q).v9 (fun c v hc r=>k c v ?_ r) (fun c r=>by rw[aj (Nc c b r)];exact r) fun c xs r=>by rw[aj (Q4 c xs r)];exact r
   rcases hc with rfl|hc
   ·exact J4
   ·rintro rfl;rcases he with z|z
    ·exact Nc c b hc z
    ·rw[hc]at z;cases z;exact hb rfl
end
structure Un(fs ex:List Addr)(H H':Hp)(h h':Heap):Prop where
 keep:∀b o,h.get? b=some o→H b=none→b∉fs→b∉ex→h'.get? b=some o
 slot:∀b o,h.get? b=some o→H b=none→b∈fs→b∉ex→∃sl,h'.get? b=some {o with slots:=sl}
 free:∀b o,h.get? b=some o→H b=none→b∉ex→H' b=none
 there:∀b o,h.get? b=some o→b∉ex→∃o',h'.get? b=some o'
 cA:∀b xs,H b=some (.tup xs)→H' b=some (.tup xs)
 oj:∀b o u,H b=some (.sj o u)→H' b=some (.sj o u)
 rL:∀b ps,H b=some (.GF ps)→∃more,H' b=some (.GF (ps++more))
section
variable{fs Ws ex aab:List Addr}{H H1 H2:Hp}{h h1 h2 h':Heap}{a x e:Addr}{o:HO}
theorem Un.any(u:Un fs ex H H1 h h1){b:Addr}{ob:Obj}(q:h.get? b=some ob)(n:H b=none)(hx:b∉ex):∃sl,h1.get? b=some {ob with slots:=sl}:=by
 by_cases hb:b∈fs
 ·exact u.slot b ob q n hb hx
 ·exact⟨ob.slots,u.keep b ob q n hb hx⟩
theorem Un.kept(k:∀b u,h.get? b=some u→h'.get? b=some u):Un fs ex H H h h':=
 ⟨fun b ob q _ _ _=>k b ob q,fun b ob q _ _ _=>⟨ob.slots,k b ob q⟩,fun _ _ _ n _=>n,fun b ob q _=>⟨ob,k b ob q⟩,fun _ _ q=>q,fun _ _ _ q=>q,fun _ ps q=>⟨#[],by rw[q];simp⟩⟩
theorem Un.refl:Un fs ex H H h h:=Un.kept fun _ _ q=>q
theorem Un.laid(k:∀b u,h.get? b=some u→h'.get? b=some u)(hp:h.objs.size≤a)(hn:H a=none):Un fs ex H (upd H a o) h h' where
 keep:=fun b u q _ _ _=>k b u q
 slot:=fun b u q _ _ _=>⟨u.slots,k b u q⟩
 free:=fun b u q n _=>by rw[aj (ZM (Zu (Y8 q) hp))];exact n
 there:=fun b u q _=>⟨u,k b u q⟩
 cA:=fun b xs q=>by rw[aj (aC q hn)];exact q
 oj:=fun b u xs q=>by rw[aj (aC q hn)];exact q
 rL:=fun b ps q=>⟨#[],by rw[aj (aC q hn),q];simp⟩
theorem Un.write(mu:Nb (H x))(he:e=x∨H e=some (.own x))(k:∀b u,b≠e→h.get? b=some u→h'.get? b=some u)(Mj:∃u,h'.get? e=some u):Un fs ex H (upd H x o) h h':=by
 have hx:∀b,H b=none→b≠x:=fun b n z=>by subst z;rw[n]at mu;exact mu
 have hb:∀b,H b=none→b≠e:=fun b n z=>by
  subst z;rcases he with r|r
  ·exact hx b n r
  ·rw[n]at r;cases r
 have hm:∀b u,H b=some u→¬Nb (some u)→b≠x:=fun b u q nm z=>by subst z;rw[q]at mu;exact nm mu
 refine⟨fun b u q n _ _=>k b u (hb b n) q,fun b u q n _ _=>⟨u.slots,k b u (hb b n) q⟩,fun b u q n _=>by rw[aj (hx b n)];exact n,fun b u q _=>?_,
  fun b xs q=>by rw[aj (hm b _ q fun z=>z)];exact q,fun b u xs q=>by rw[aj (hm b _ q fun z=>z)];exact q,fun b ps q=>⟨#[],by rw[aj (hm b _ q fun z=>z),q];simp⟩⟩
 by_cases J4:b=e
 ·subst J4;exact Mj
 ·exact⟨u,k b u J4 q⟩
end
def PL(h:Heap)(H:Hp):List Addr:=(X_ h.objs.size).filter fun a=>(H a).isSome
def v_(h:Heap)(H:Hp):Heap:=PySem.W.hideAll h (PL h H)
theorem B5(h:Heap)(H:Hp):(v_ h H).objs.size=h.objs.size:=PySem.W.hideAll_size _ _
theorem DL{h:Heap}{H:Hp}{b:Addr}{o:Obj}(e:h.get? b=some o)(n:H b=none):(v_ h H).get? b=some o:=
 PySem.W.hideAll_get _ e fun hm=>by
  have q:(H b).isSome=true:=(List.mem_filter.mp hm).2;rw[n]at q;simp at q
theorem GG{h:Heap}{H:Hp}{b:Addr}{o:Obj}(e:(v_ h H).get? b=some o):h.get? b=some o∧H b=none:=by
 have e':h.get? b=some o:=PySem.W.of_hideAll (PL h H) e;refine⟨e',?_⟩;cases q:H b with
 |none=>rfl
 |some x=>
  have hm:b∈PL h H:=List.mem_filter.mpr ⟨List.mem_range.mpr (Y8 e'),by simp[q]⟩;have z:(v_ h H).get? b=none:=PySem.W.hideAll_none (PL h H) hm;rw[z]at e;cases e
def GH(g h:Heap)(L:Addr):List (Addr×Obj):=(X_ h.objs.size).filterMap fun a=>if a=L∨(g.get? a).isSome=true then none else(h.get? a).map fun o=>(a,o)
def rest(g h:Heap)(L d:Addr):List (Addr×Obj):=(GH g h L).filter fun p=>decide (p.1≠d)
structure Mod(K:PySem.W.Frag)(mg:Str→Option Value)(base:Heap):Prop where
 Ml:K.In base
 glob:base.Ns mainGlobals mg
 blt:∃mb,base.Ns builtinsNs mb∧∀x:Str,x≠"__name__"→mb x=bootBuiltins x
 nolimit:base.NoLimit
structure Cx where
 prog:Program
 w:World
 K:PySem.W.Frag
 mg:Str→Option Value
 base:Heap
 A:Around
 N:List Str
 dA:Shared
 eU:Hp
 env:Env
 outer:List Env
 stack:List Env
 ex:List Addr
 fn:Str→Bool
 calm:Bool
 pn:List (Addr×Obj)
 xe:Value→Shared→Prop
def oa(l:List Env):List Addr:=l.filterMap (·.frame)
abbrev Cx.fs(X:Cx):List Addr:=oa X.outer
def Q5(sc:Scope)(x:Str):Prop:=sc.names.lookup x=some .local∨sc.names.lookup x=some .cell∨sc.names.lookup x=some .free
def Loc(sc:Scope)(x:Str):Prop:=sc.names.lookup x=some .local∨sc.names.lookup x=some .cell
def Look(env:Env)(h:Heap)(m:Str→Option Value)(x:Str)(u:Value):Prop:=
 (env.kindOf x=some .local∧m x=some u)∨((env.kindOf x=some .cell∨env.kindOf x=some .free)∧∃c,env.cells.lookup x=some c∧h.IsCell c (some u))
structure Cx.Ok(X:Cx):Prop where
 mod:Mod X.K X.mg X.base
 kind:X.env.scope.kind= .function
 glob:X.env.globals=mainGlobals
 blt:X.env.builtins=builtinsNs
 above:X.dA.heap.objs.size≤X.env.locals
 inj:∀x y c,X.env.cells.lookup x=some c→X.env.cells.lookup y=some c→x=y
 has:∀x,(X.env.kindOf x=some .cell∨X.env.kindOf x=some .free)→∃c,X.env.cells.lookup x=some c
 Q6:∀x c,X.fn x=true→X.env.cells.lookup x=some c→X.dA.heap.objs.size≤c
 hd:X.calm=true→X.A.handled=none
 frames:X.A.frames=some X.stack
 Ux:X.stack=X.outer∨(X.stack=X.env::X.outer∧X.env.frame=some X.env.locals)
 aan:∀b∈X.ex,b≠X.env.locals∧∀x c,X.env.cells.lookup x=some c→c≠b
 bs:∀b o,X.base.get? b=some o→X.dA.heap.get? b=some o∧X.eU b=none
 J5:X.base.objs.size≤X.dA.heap.objs.size
 J6:∀b o,X.base.get? b=some o→b∉X.ex
 Nd:∀b∈X.ex,b∉X.fs
 uE:X.dA.heap.FunFrames X.base X.outer
 Nf:∀b∈X.fs,X.eU b=none
structure Inv(X:Cx)(pins:List (Addr×Obj))(σ:List (Option V))(H:Hp)(s:Shared):Prop where
 ok:X.Ok
 os:s.os=X.dA.os
 bare:AllBare s.gens
 base:Un X.fs X.ex X.eU H X.dA.heap s.heap
 loc:∃m,s.heap.Ns X.env.locals m∧∀(i:Nat)(x:Str)(v:V),X.N[i]?=some x→σ[i]?=some (some v)→Q5 X.env.scope x→∃u,RelV v u∧Look X.env s.heap m x u
 cell:∀x c,X.env.cells.lookup x=some c→∃v,s.heap.IsCell c v
 free:H X.env.locals=none
 mO:∀x c,X.env.cells.lookup x=some c→H c=none
 pin:∀p∈X.pn++pins,s.heap.get? p.1=some p.2∧H p.1=none∧p.1≠X.env.locals∧p.1∉X.fs∧∀v,p.2.data≠ .cell v
 bU:lz X.prog X.w H s.heap
 len:σ.length=X.N.length
section
variable{X:Cx}{pins:List (Addr×Obj)}{σ:List (Option V)}{H H':Hp}{s:Shared}{h':Heap}
theorem Cx.Ok.Q7(ok:X.Ok){b:Addr}{o:Obj}(e:X.base.get? b=some o):b∉X.fs:=fun hb=>by
 have:=(ok.uE.mem hb).1;rw[e]at this;cases this
theorem Inv.bs(I:Inv X pins σ H s):∀b o,X.base.get? b=some o→s.heap.get? b=some o∧H b=none:=fun b o e=>
 ⟨I.base.keep b o (I.ok.bs b o e).1 (I.ok.bs b o e).2 (I.ok.Q7 e) (I.ok.J6 b o e),I.base.free b o (I.ok.bs b o e).1 (I.ok.bs b o e).2 (I.ok.J6 b o e)⟩
theorem Inv.bk(I:Inv X pins σ H s):∀b o,X.base.get? b=some o→s.heap.get? b=some o:=fun b o e=>(I.bs b o e).1
theorem Inv.mod(I:Inv X pins σ H s):Mod X.K X.mg X.base:=I.ok.mod
theorem Inv.qe(I:Inv X pins σ H s):X.K.In s.heap:=I.ok.mod.Ml.keeps I.bk
theorem Inv.lt(I:Inv X pins σ H s):X.env.locals<s.heap.objs.size:=let ⟨_,hn,_⟩:=I.loc;hn.lt
theorem Inv.sz(I:Inv X pins σ H s):X.dA.heap.objs.size≤s.heap.objs.size:=ZN I.ok.above (Nat.le_of_lt I.lt)
theorem Inv.Q8(I:Inv X pins σ H s){a:Addr}(h:s.heap.objs.size≤a):a∉X.fs:=fun hb=>by
 obtain⟨_,o,ho,_⟩:=I.ok.uE.mem hb;exact V' (Zu (Y8 ho) (ZN I.sz h)) (Nat.lt_irrefl _)
theorem Inv.J7(I:Inv X pins σ H s):∀x c,X.env.cells.lookup x=some c→c≠X.env.locals:=fun x c e z=>by
 obtain⟨v,o,ho,hd⟩:=I.cell x c e;obtain⟨m,⟨o',es,ep,B6,zv,_⟩,_⟩:=I.loc;rw[z,B6]at ho;cases ho;rw[zv]at hd;cases hd
theorem Inv.uE(I:Inv X pins σ H s):s.heap.FunFrames X.base X.outer:=by
 have all:∀(l:List Env),(∀b∈oa l,b∈X.fs)→X.dA.heap.FunFrames X.base l→s.heap.FunFrames X.base l:=by
  intro l
  induction l with
  |nil=>intro _ _;trivial
  |cons env r ih=>
   intro hs hl;obtain⟨hk,⟨L,o,hf,hn,ho,hd⟩,hr⟩:=hl;have hL:L∈X.fs:=hs L (by unfold oa;rw[List.filterMap_cons,hf];exact List.mem_cons_self);obtain⟨sl,e⟩:=I.base.slot L o ho (I.ok.Nf L hL) hL fun z=>I.ok.Nd L z hL
   exact⟨hk,⟨L,_,hf,hn,e,hd⟩,ih (fun b hb=>hs b (by unfold oa;rw[List.filterMap_cons,hf];exact ZL hb)) hr⟩
 exact all X.outer (fun _ hb=>hb) I.ok.uE
theorem Inv.stack(I:Inv X pins σ H s):s.heap.FunFrames X.base X.stack:=by
 rcases I.ok.Ux with e|⟨e,hf⟩
 ·rw[e];exact I.uE
 ·rw[e];obtain⟨m,hn,_⟩:=I.loc;refine .cons (by rw[I.ok.kind];decide) hf hn ?_ I.uE;exact Heap.get?_none_of_le (ZN I.ok.J5 I.ok.above)
theorem Inv.sO(I:Inv X pins σ H s):∀b∈oa X.stack,b∈X.env.locals::X.fs:=fun b hb=>by
 rcases I.ok.Ux with e|⟨e,hf⟩
 ·rw[e]at hb;exact ZL hb
 ·rw[e]at hb;unfold oa at hb;rw[List.filterMap_cons,hf]at hb;exact hb
theorem Inv.wb(I:Inv X pins σ H s):∀b∈oa X.stack,H b=none:=fun b hb=>by
 rcases List.mem_cons.mp (I.sO b hb)with e|hb
 ·rw[e];exact I.free
 ·obtain⟨_,o,ho,_⟩:=I.ok.uE.mem hb;exact I.base.free b o ho (I.ok.Nf b hb) fun z=>I.ok.Nd b z hb
theorem Inv.step{g':Array GenState}{t':Nat}{d':Drawn}{ch:List Addr}(I:Inv X pins σ H s)
  (Gk:∀b∈ch,(b∈X.ex∨X.dA.heap.objs.size≤b)∧b≠X.env.locals∧(∀x c,X.env.cells.lookup x=some c→c≠b)∧∀p∈X.pn++pins,p.1≠b)
  (keep:∀b o,b≠X.env.locals→b∉X.fs→b∉ch→s.heap.get? b=some o→H b=none→h'.get? b=some o)
  (slot:∀b o,b≠X.env.locals→b∈X.fs→b∉ch→s.heap.get? b=some o→H b=none→∃sl,h'.get? b=some {o with slots:=sl}) (free:∀b o,b∉ch→s.heap.get? b=some o→H b=none→H' b=none)
  (there:∀b o,b∉ch→s.heap.get? b=some o→∃o',h'.get? b=some o')
  (cA:∀b xs,H b=some (.tup xs)→H' b=some (.tup xs)) (oj:∀b o u,H b=some (.sj o u)→H' b=some (.sj o u)) (rL:∀b ps,H b=some (.GF ps)→∃more,H' b=some (.GF (ps++more)))
  (ns:∀m,s.heap.Ns X.env.locals m→h'.Ns X.env.locals m) (bU:lz X.prog X.w H' h') (hg:AllBare g'):
  Inv X pins σ H' {s with heap:=h',gens:=g',drawn:=d',toks:=t'}:=by
 have Uy:∀b o,X.dA.heap.get? b=some o→b≠X.env.locals:=fun b o e=>ZM (Zu (Y8 e) I.ok.above)
 have PM:∀b o,X.dA.heap.get? b=some o→b∉X.ex→b∉ch:=fun b o e hx hb=>by
  rcases(Gk b hb).1 with z|z
  ·exact hx z
  ·exact V' (Zu (Y8 e) z) (Nat.lt_irrefl _)
 have cellK:∀x c,X.env.cells.lookup x=some c→∀v,s.heap.IsCell c v→h'.IsCell c v:=fun x c e v ⟨o,ho,hd⟩=>by
  have Ng:c∉ch:=fun z=>(Gk c z).2.2.1 x c e rfl
  by_cases hc:c∈X.fs
  ·obtain⟨sl,q⟩:=slot c o (I.J7 x c e) hc Ng ho (I.mO x c e);exact⟨_,q,hd⟩
  ·exact⟨o,keep c o (I.J7 x c e) hc Ng ho (I.mO x c e),hd⟩
 refine⟨I.ok,I.os,hg,⟨fun b o e n hb hx=>?_,fun b o e n hb hx=>?_,fun b o e n hx=>?_,fun b o e hx=>?_,fun b xs e=>cA b xs (I.base.cA b xs e),fun b o xs e=>oj b o xs (I.base.oj b o xs e),fun b ps e=>?_⟩,?_,fun x c e=>?_,?_,fun x c e=>?_,fun p hp=>?_,bU,I.len⟩
 ·exact keep b o (Uy b o e) hb (PM b o e hx) (I.base.keep b o e n hb hx) (I.base.free b o e n hx)
 ·obtain⟨sl,e1⟩:=I.base.slot b o e n hb hx;obtain⟨Q9,e2⟩:=slot b _ (Uy b o e) hb (PM b o e hx) e1 (I.base.free b o e n hx);exact⟨Q9,e2⟩
 ·obtain⟨o',e1⟩:=I.base.there b o e hx;exact free b o' (PM b o e hx) e1 (I.base.free b o e n hx)
 ·obtain⟨o',e1⟩:=I.base.there b o e hx;exact there b o' (PM b o e hx) e1
 ·obtain⟨m1,e1⟩:=I.base.rL b ps e;obtain⟨m2,e2⟩:=rL b _ e1;exact⟨m1++m2,by rw[e2,Array.append_assoc]⟩
 ·obtain⟨m,hn,hl⟩:=I.loc;refine⟨m,ns m hn,fun i x v e1 e2 e3=>?_⟩;obtain⟨u,r,l⟩:=hl i x v e1 e2 e3;refine⟨u,r,?_⟩;rcases l with l|⟨k,c,e,z⟩
  ·exact .inl l
  ·exact .inr ⟨k,c,e,cellK x c e _ z⟩
 ·obtain⟨v,z⟩:=I.cell x c e;exact⟨v,cellK x c e v z⟩
 ·obtain⟨m,⟨o,_,_,ho,_⟩,_⟩:=I.loc;exact free _ o (fun z=>(Gk _ z).2.1 rfl) ho I.free
 ·obtain⟨v,o,ho,hd⟩:=I.cell x c e;exact free c o (fun z=>(Gk c z).2.2.1 x c e rfl) ho (I.mO x c e)
 ·obtain⟨e,n,ne,nf,d⟩:=I.pin p hp;have Ng:p.1∉ch:=fun z=>(Gk p.1 z).2.2.2 p hp rfl
  exact⟨keep p.1 p.2 ne nf Ng e n,free p.1 p.2 Ng e n,ne,nf,d⟩
theorem Inv.un{t':Nat}(I:Inv X pins σ H s)(u:Un X.fs [] H H' s.heap h')(bU:lz X.prog X.w H' h'):Inv X pins σ H' {s with heap:=h',toks:=t'}:=by
 obtain⟨m,⟨o,es,ep,ho,r⟩,_⟩:=id I.loc;obtain⟨sl,hL⟩:=u.any ho I.free Mi;exact I.step (g':=s.gens) (d':=s.drawn) (ch:=[]) (fun _ z=>nomatch z) (fun b o _ hb _ e n=>u.keep b o e n hb Mi) (fun b o _ hb _ e n=>u.slot b o e n hb Mi) (fun b o _ e n=>u.free b o e n (IM)) (fun b o _ e=>u.there b o e Mi) u.cA u.oj u.rL (fun m' hm=>by
  obtain⟨o',qb,PN,B6,r'⟩:=hm;rw[ho]at B6;cases B6;exact⟨_,qb,PN,hL,r'⟩) bU I.bare
theorem Inv.call{g':Array GenState}{t':Nat}{d':Drawn}{ch:List Addr}(I:Inv X pins σ H s)(u:Un (oa X.stack) ch H H' s.heap h')(bU:lz X.prog X.w H' h')(hg:AllBare g')
  (Gk:∀b∈ch,(b∈X.ex∨X.dA.heap.objs.size≤b)∧b≠X.env.locals∧(∀x c,X.env.cells.lookup x=some c→c≠b)∧∀p∈X.pn++pins,p.1≠b):
  Inv X pins σ H' {s with heap:=h',gens:=g',drawn:=d',toks:=t'}:=by
 obtain⟨m,⟨o,es,ep,ho,r⟩,_⟩:=id I.loc;obtain⟨sl,hL⟩:=u.any ho I.free fun z=>(Gk _ z).2.1 rfl
 exact I.step (ch:=ch) Gk (fun b o hL hb hc e n=>u.keep b o e n (fun z=>(List.mem_cons.mp (I.sO b z)).elim hL hb) hc) (fun b o _ _ hc e n=>u.any e n hc) (fun b o hc e n=>u.free b o e n hc) (fun b o hc e=>u.there b o e hc) u.cA u.oj u.rL (fun m' hm=>by
  obtain⟨o',qb,PN,B6,r'⟩:=hm;rw[ho]at B6;cases B6;exact⟨_,qb,PN,hL,r'⟩) bU hg
theorem Inv.turned{t':Nat}{it:Addr}(I:Inv X pins σ H s)(k:∀b o,b≠it→s.heap.get? b=some o→h'.get? b=some o)(hn:H it=none)(hL:it≠X.env.locals)
  (h1:it∈X.ex∨X.dA.heap.objs.size≤it) (h2:∀x c,X.env.cells.lookup x=some c→c≠it) (h3:∀p∈X.pn++pins,p.1≠it):Inv X pins σ H {s with heap:=h',toks:=t'}:=by
 have IF:∀b u,H b=some u→b≠it:=fun b u e z=>by rw[z,hn]at e;cases e
 refine I.step (g':=s.gens) (d':=s.drawn) (ch:=[it]) (fun b hb=>?_) (fun b o _ _ hc e _=>k b o (fun z=>hc (by simp[z])) e) (fun b o _ _ hc e _=>⟨o.slots,k b o (fun z=>hc (by simp[z])) e⟩) (fun _ _ _ _ n=>n)
  (fun b o hc e=>⟨o,k b o (fun z=>hc (by simp[z])) e⟩) (fun _ _ e=>e) (fun _ _ _ e=>e) (fun b ps e=>⟨#[],by rw[e];simp⟩) (fun m hm=>?_) (fun b u e=>?_) I.bare
 ·have e:b=it:=by simpa using hb
  subst e;exact⟨h1,hL,h2,h3⟩
 ·obtain⟨o,es,ep,ho,r⟩:=hm;exact⟨o,es,ep,k _ o (WR hL) ho,r⟩
 ·refine(I.bU b u e).v9 (fun c v hc q=>k c v ?_ q) (fun _ q=>q) fun _ _ q=>q
  rcases hc with z|z
  ·rw[z];exact IF b u e
  ·exact IF c _ z
theorem Inv.tok(I:Inv X pins σ H s)(t:Nat):Inv X pins σ H {s with toks:=t}:=I.un (h':=s.heap) (t':=t) Un.refl I.bU
theorem Inv.kept{t':Nat}(I:Inv X pins σ H s)(k:∀b u,s.heap.get? b=some u→h'.get? b=some u):Inv X pins σ H {s with heap:=h',toks:=t'}:=I.un (Un.kept k) (I.bU.kept k)
theorem Inv.laid{a:Addr}{o:HO}{t':Nat}(I:Inv X pins σ H s)(k:∀b u,s.heap.get? b=some u→h'.get? b=some u)(hp:s.heap.objs.size≤a)(new:cL X.prog X.w (upd H a o) h' a o):
  Inv X pins σ (upd H a o) {s with heap:=h',toks:=t'}:=I.un (Un.laid k hp (I.bU.fresh hp)) (I.bU.laid k hp new)
theorem Inv.write{x e:Addr}{o:HO}{t':Nat}(I:Inv X pins σ H s)(mu:Nb (H x))(he:e=x∨H e=some (.own x))(k:∀b u,b≠e→s.heap.get? b=some u→h'.get? b=some u)(Mj:∃u,h'.get? e=some u)
  (new:cL X.prog X.w (upd H x o) h' x o):Inv X pins σ (upd H x o) {s with heap:=h',toks:=t'}:=I.un (Un.write mu he k Mj) (I.bU.write mu he k Mj new)
theorem Inv.AY{IG:List (Addr×Obj)}(I:Inv X pins σ H s)(h:∀p∈IG,s.heap.get? p.1=some p.2∧H p.1=none∧p.1≠X.env.locals∧p.1∉X.fs∧∀v,p.2.data≠ .cell v):Inv X IG σ H s:=
 ⟨I.ok,I.os,I.bare,I.base,I.loc,I.cell,I.free,I.mO,fun p hp=>(List.mem_append.mp hp).elim (fun z=>I.pin p (Zw z)) (h p),I.bU,I.len⟩
theorem yj{N:List Str}(hN:N.Nodup){i j:Nat}{x:Str}(a:N[i]?=some x)(b:N[j]?=some x):i=j:=by
 obtain⟨h1,e1⟩:=ZX a;obtain⟨h2,e2⟩:=ZX b;exact(List.getElem_inj hN).mp (e1.trans e2.symm)
theorem vo{M:Model}{A:Around}{E:Value→Shared→Prop}{i:Nat}{x:Str}{v:V}{u:Value}{Q:Unit→Shared→Prop}(I:Inv X pins σ H s)(hN:X.N.Nodup)(hi:X.N[i]?=some x)(hx:Loc X.env.scope x)(r:RelV v u)
  (h:∀s',Inv X pins (σ.set i (some v)) H s'→(∃a,Heap.SameBut a s.heap s'.heap∧(a=X.env.locals∨X.env.cells.lookup x=some a))→Q () s') (hf:X.fn x=true∨X.env.scope.names.lookup x=some .local:=by first|exact .inl rfl|exact .inr rfl|assumption):wpAny M A (storeName X.env x u) Q E s:=by
 obtain⟨m,hn,hl⟩:=id I.loc;have Q_:(X.env.scope.kind== .class||(X.env.scope.kind== .module&&X.env.locals !=X.env.globals))=false:=by rw[I.ok.kind];rfl
 have Nh:i<σ.length:=by rw[I.len];exact(ZX hi).1
 have J7:=I.J7;have tracked:∀{a:Addr}{h':Heap},(∃o,s.heap.get? a=some o∧H a=none)→Heap.SameBut a s.heap h'→lz X.prog X.w H h':=fun{a h'} ha hs b ob e=>by
  obtain⟨_,_,AZ⟩:=ha;refine(I.bU b ob e).v9 (fun c w' hc q=>(hs.2 c ?_).trans q) (fun _ q=>q) fun _ _ q=>q
  rintro rfl;rcases hc with rfl|hc
  ·rw[AZ]at e;cases e
  ·rw[AZ]at hc;cases hc
 rcases hx with hk|hk
 ·refine wpAny_storeName_local hk hn (fun h' DM hs=>?_) Q_;obtain⟨oL,_,_,IH,_⟩:=id hn;refine h _ ⟨I.ok,I.os,I.bare,⟨fun b o e n hb hx=>?_,fun b o e n hb hx=>?_,I.base.free,fun b o e hx=>?_,I.base.cA,I.base.oj,I.base.rL⟩,⟨_,DM,fun j y v' e1 e2 e3=>?_⟩,fun y c e=>?_,I.free,I.mO,fun p hp=>?_,tracked ⟨oL,IH,I.free⟩ hs,by simpa using I.len⟩ ⟨_,hs, .inl rfl⟩
  ·exact(hs.2 b (ZM (Zu (Y8 e) I.ok.above))).trans (I.base.keep b o e n hb hx)
  ·obtain⟨sl,e1⟩:=I.base.slot b o e n hb hx;exact⟨sl,(hs.2 b (ZM (Zu (Y8 e) I.ok.above))).trans e1⟩
  ·obtain⟨o',e1⟩:=I.base.there b o e hx;exact⟨o',(hs.2 b (ZM (Zu (Y8 e) I.ok.above))).trans e1⟩
  ·by_cases hj:j=i
   ·subst hj;rw[hi]at e1;cases e1;rw[List.getElem?_set_self Nh]at e2;cases e2;exact⟨u,r, .inl ⟨hk,IM⟩⟩
   ·rw[List.getElem?_set_ne (WR hj)]at e2;obtain⟨u',r',q⟩:=hl j y v' e1 e2 e3;refine⟨u',r',?_⟩;rcases q with⟨k,e⟩|⟨k,c,e,z⟩
    ·refine .inl ⟨k,?_⟩;have:y≠x:=fun e=>hj (yj hN e1 (e▸hi))
     simp[this,e]
    ·exact .inr ⟨k,c,e,z.sameBut hs (J7 y c e)⟩
  ·obtain⟨w',z⟩:=I.cell y c e;exact⟨w',z.sameBut hs (J7 y c e)⟩
  ·obtain⟨e,n,ne,nf,d⟩:=I.pin p hp;exact⟨(hs.2 p.1 ne).trans e,n,ne,nf,d⟩
 ·have Ni:X.fn x=true:=by
   rcases hf with z|z
   ·exact z
   ·rw[z]at hk;cases hk
  obtain⟨c,hc⟩:=I.ok.has x (.inl hk);obtain⟨w',z⟩:=I.cell x c hc;refine wpAny_storeName_cell I.ok.kind hk hc z (fun h' J8 hs=>?_);obtain⟨oc,Uz,Ra⟩:=id z;refine h {s with heap:=h'} ⟨I.ok,I.os,I.bare,⟨fun b o e n hb hx=>?_,fun b o e n hb hx=>?_,I.base.free,fun b o e hx=>?_,I.base.cA,I.base.oj,I.base.rL⟩,⟨m,hn.sameBut hs (WR (J7 x c hc)),fun j y v' e1 e2 e3=>?_⟩,fun y c' e=>?_,I.free,I.mO,fun p hp=>?_,tracked ⟨oc,Uz,I.mO x c hc⟩ hs,by simpa using I.len⟩ ⟨c,hs, .inr hc⟩
  ·exact(hs.2 b (ZM (Zu (Y8 e) (I.ok.Q6 x c Ni hc)))).trans (I.base.keep b o e n hb hx)
  ·obtain⟨sl,e1⟩:=I.base.slot b o e n hb hx;exact⟨sl,(hs.2 b (ZM (Zu (Y8 e) (I.ok.Q6 x c Ni hc)))).trans e1⟩
  ·obtain⟨o',e1⟩:=I.base.there b o e hx;exact⟨o',(hs.2 b (ZM (Zu (Y8 e) (I.ok.Q6 x c Ni hc)))).trans e1⟩
  ·by_cases hj:j=i
   ·subst hj;rw[hi]at e1;cases e1;rw[List.getElem?_set_self Nh]at e2;cases e2;exact⟨u,r, .inr ⟨.inl hk,c,hc,J8⟩⟩
   ·rw[List.getElem?_set_ne (WR hj)]at e2;obtain⟨u',r',q⟩:=hl j y v' e1 e2 e3;refine⟨u',r',?_⟩;rcases q with q|⟨k,c',e,z'⟩
    ·exact .inl q
    ·refine .inr ⟨k,c',e,z'.sameBut hs ?_⟩;rintro rfl;exact hj (yj hN e1 (I.ok.inj _ _ _ e hc▸hi))
  ·by_cases UA:c'=c
   ·subst UA;exact⟨_,J8⟩
   ·obtain⟨w2,z2⟩:=I.cell y c' e;exact⟨w2,z2.sameBut hs UA⟩
  ·obtain⟨e,n,ne,nf,d⟩:=I.pin p hp;refine⟨(hs.2 p.1 ?_).trans e,n,ne,nf,d⟩;intro q;rw[q,Uz]at e;have q':oc=p.2:=WK e;exact d w' (by rw[←q'];exact Ra)
theorem yk{M:Model}{A:Around}{E:Value→Shared→Prop}{i:Nat}{x:Str}{v:V}{u:Value}{Q:Unit→Shared→Prop}(I:Inv X pins σ H s)(hN:X.N.Nodup)(hi:X.N[i]?=some x)(hx:Loc X.env.scope x)(r:RelV v u)
  (h:∀s',Inv X pins (σ.set i (some v)) H s'→Q () s') (hf:X.fn x=true∨X.env.scope.names.lookup x=some .local:=by first|exact .inl rfl|exact .inr rfl|assumption):wpAny M A (storeName X.env x u) Q E s:=
 vo I hN hi hx r (fun s' I' _=>h s' I') hf
theorem Inv.Nj{s':Shared}{ch:List Addr}(I:Inv X pins σ H s)(ho:s'.os=s.os)(u:Un (oa X.stack) ch H H' s.heap s'.heap)(bU:lz X.prog X.w H' s'.heap)(hg:AllBare s'.gens)
  (Gk:∀b∈ch,(b∈X.ex∨X.dA.heap.objs.size≤b)∧b≠X.env.locals∧(∀x c,X.env.cells.lookup x=some c→c≠b)∧∀p∈X.pn++pins,p.1≠b):Inv X pins σ H' s':=by
 obtain⟨h',g',d',t',o'⟩:=s';have e:o'=s.os:=ho;subst e;exact I.call (g':=g') (t':=t') (d':=d') u bU hg Gk
end
abbrev XK:=Value→Option Addr→Hp→Prop
abbrev St:=List (Option V)
abbrev VK:=V→Hp→Prop
abbrev TE:=St→Hp→VK→Prop
abbrev TT:=St→Hp→(Bool→Hp→Prop)→Prop
abbrev TA:=St→Hp→(List V→Hp→Prop)→Prop
structure Ends where
 nx:St→Hp→Prop
 rt:VK
 bk:St→Hp→Prop:=fun _ _=>False
 ct:St→Hp→Prop:=fun _ _=>False
abbrev TS:=Ends→St→Hp→Prop
def EP(X:Cx)(pins:List (Addr×Obj))(σ:St)(Q:VK)(u:Value)(s':Shared):Prop:=∃v H',Inv X pins σ H' s'∧RelV v u∧Q v H'
def TP(X:Cx)(pins:List (Addr×Obj))(σ:St)(Q:Bool→Hp→Prop)(b:Bool)(s':Shared):Prop:=∃H',Inv X pins σ H' s'∧Q b H'
def AP(X:Cx)(pins:List (Addr×Obj))(σ:St)(Q:List V→Hp→Prop)(us:List Value)(s':Shared):Prop:=∃vs H',Inv X pins σ H' s'∧Vals vs us∧Q vs H'
def SP(X:Cx)(pins:List (Addr×Obj))(D:Ends)(f:Flow)(s':Shared):Prop:=
 match f with
 | .next=>∃bx H',Inv X pins bx H' s'∧D.nx bx H'
 | .brk=>∃bx H',Inv X pins bx H' s'∧D.bk bx H'
 | .cont=>∃bx H',Inv X pins bx H' s'∧D.ct bx H'
 | .ret u=>∃v bx H',Inv X pins bx H' s'∧RelV v u∧D.rt v H'
def PE(X:Cx)(e:Expr)(t:TE):Prop:=
 ∀(pins:List (Addr×Obj))(s:Shared)(σ:St)(H:Hp)(Q:VK),Inv X pins σ H s→t σ H Q→wpAny (model X.prog X.w) X.A (eval e X.env) (EP X pins σ Q) X.xe s
def PT(X:Cx)(e:Expr)(t:TT):Prop:=
 ∀(pins:List (Addr×Obj))(s:Shared)(σ:St)(H:Hp)(Q:Bool→Hp→Prop),Inv X pins σ H s→t σ H Q→wpAny (model X.prog X.w) X.A (isTrue e X.env (eval e X.env)) (TP X pins σ Q) X.xe s
def PW(X:Cx)(e:Expr)(t:TT):Prop:=
 ∀(whole:Sem Value)(pins:List (Addr×Obj))(s:Shared)(σ:St)(H:Hp)(Q:Bool→Hp→Prop),Inv X pins σ H s→t σ H Q→wpAny (model X.prog X.w) X.A (isTrue e X.env whole) (TP X pins σ Q) X.xe s
theorem PW.pt{X:Cx}{e:Expr}{t:TT}(h:PW X e t):PT X e t:=h _
def PA(X:Cx)(es:List Expr)(t:TA):Prop:=
 ∀(pos:Pos)(pins:List (Addr×Obj))(s:Shared)(σ:St)(H:Hp)(Q:List V→Hp→Prop),Inv X pins σ H s→t σ H Q→wpAny (model X.prog X.w) X.A (spliced (kU pos)) (AP X pins σ Q) X.xe s
def PS(X:Cx)(st:Stmt)(t:TS):Prop:=
 ∀(pins:List (Addr×Obj))(s:Shared)(σ:St)(H:Hp)(D:Ends),Inv X pins σ H s→t D σ H→wpAny (model X.prog X.w) X.A (exec st X.env) (SP X pins D) X.xe s
def B7(X:Cx)(st:List Stmt)(t:TS):Prop:=
 ∀(pins:List (Addr×Obj))(s:Shared)(σ:St)(H:Hp)(D:Ends),Inv X pins σ H s→t D σ H→wpAny (model X.prog X.w) X.A (execs st X.env) (SP X pins D) X.xe s
theorem cD{α:Type}{t:Sem α}{Q Q':α→Shared→Prop}{M:Model}{A:Around}{E:Value→Shared→Prop}{s:Shared}(h:wpAny M A t Q E s)(hQ:∀a s,Q a s→Q' a s):wpAny M A t Q' E s:=wpAny_mono h hQ fun _ _ x=>x
section
variable{X:Cx}
theorem bin{a b:Expr}{ta tb:TE}(ha:PE X a ta)(hb:PE X b tb){pins:List (Addr×Obj)}{s:Shared}{σ:St}{H:Hp}{R:V→V→Hp→Prop}(I:Inv X pins σ H s)(h:ta σ H fun x H1=>tb σ H1 fun y H2=>R x y H2)
  {α:Type} {Q:α→Shared→Prop} {f:Value→Value→Sem α}
  (hf:∀v u s2 x y H2,Inv X pins σ H2 s2→RelV x v→RelV y u→R x y H2→wpAny (model X.prog X.w) X.A (f v u) Q X.xe s2):
  wpAny (model X.prog X.w) X.A (eval a X.env) (fun v cf=>wpAny (model X.prog X.w) X.A (eval b X.env) (fun u qf=>wpAny (model X.prog X.w) X.A (f v u) Q X.xe qf) X.xe cf) X.xe s:=by
 refine cD Η fun v s1 ⟨x,H1,I1,r1,q1⟩=>?_
 refine cD (hb pins s1 σ H1 _ I1 q1) fun u s2 ⟨y,H2,I2,r2,q2⟩=>?_
 exact hf v u s2 x y H2 I2 r1 r2 q2
inductive J9(i:Nat)(σ:St)(H:Hp)(Q:VK):Prop
 |mk (v:_) (_:σ[i]?=some (some v)) (_:Q v H):J9 i σ H Q
def tC(v:V):TE:=fun _ H Q=>Q v H
theorem J_{i:Nat}{x:Str}{pos:Pos}(hN:X.N[i]?=some x)(hv:Q5 X.env.scope x)(hd:(x==("__debug__":Str))=false:=by decide)(B8:(x==("__classdict__":Str))=false:=by decide):PE X (.Name x pos) (J9 i):=by
 intro pins s σ H Q I h;obtain⟨v,e,h⟩:=h;obtain⟨m,hn,hl⟩:=I.loc;obtain⟨u,r,l⟩:=hl i x v hN e hv;have fin:EP X pins σ Q u s:=⟨v,H,I,r,h⟩
 rcases l with⟨hk,hm⟩|⟨hk,c,hc,II⟩
 ·exact wpAny_Name (wpAny_loadName_local I.ok.kind hk hn hm fin) hd
 ·rcases hk with hk|hk
  ·exact wpAny_Name (wpAny_loadName_cell I.ok.kind hk hc II fin) hd
  ·exact wpAny_Name (wpAny_loadName_free I.ok.kind hk hc II fin B8) hd
theorem ai{i j pos}:PE X (.Constant (.int i) j pos) (tC (.int i)):=fun _ _ _ H _ I h=>wpAny_Constant_int ⟨.int i,H,I.tok _,⟨_,rfl⟩,h⟩
theorem eI{b j pos}:PE X (.Constant (.bool b) j pos) (tC (.bl b)):=fun _ _ _ H _ I h=>Constant_bool ⟨.bl b,H,I,rfl,h⟩
theorem jL{j pos}:PE X (.Constant .none j pos) (tC .cJ):=fun _ _ _ H _ I h=>Constant_none ⟨.cJ,H,I,rfl,h⟩
theorem dR{x j pos}:PE X (.Constant (.str x) j pos) (tC (.str x)):=fun _ _ _ H _ I h=>Calls.Constant_str ⟨.str x,H,I.tok _,⟨_,rfl⟩,h⟩
def Gl(X:Cx)(x:Str):Prop:=X.env.kindOf x=some .globalImplicit
theorem om{E:Value→Shared→Prop}{pins:List (Addr×Obj)}{s:Shared}{σ:St}{H:Hp}{x:Str}{u:Value}{pos:Pos}{Q:Value→Shared→Prop}(I:Inv X pins σ H s)(hg:Gl X x)(hm:X.mg x=some u)(h:Q u s)
  (hd:(x==("__debug__":Str))=false:=by decide):wpAny (model X.prog X.w) X.A (eval (.Name x pos) X.env) Q E s:=
 Calls.Name_function_global I.ok.kind hg (Calls.loadGlobal_global (by rw[I.ok.glob];exact I.mod.glob.keeps I.bk) hm h) hd
theorem lA{E:Value→Shared→Prop}{pins:List (Addr×Obj)}{s:Shared}{σ:St}{H:Hp}{x:Str}{u:Value}{pos:Pos}{Q:Value→Shared→Prop}(I:Inv X pins σ H s)(hg:Gl X x)(hm:X.mg x=none)(hv:bootBuiltins x=some u)(h:Q u s)
  (hn:x≠"__name__":=by decide) (hd:(x==("__debug__":Str))=false:=by decide):wpAny (model X.prog X.w) X.A (eval (.Name x pos) X.env) Q E s:=by
 obtain⟨mb,h1,h2⟩:=I.mod.blt;exact Calls.Name_function_global I.ok.kind hg (Calls.loadGlobal_builtin (by rw[I.ok.glob];exact I.mod.glob.keeps I.bk) hm (by rw[I.ok.blt];exact h1.keeps I.bk) ((h2 x hn).trans hv) h) hd
theorem A0{x:Str}{v:V}{u:Value}{pos:Pos}(hg:Gl X x)(hm:X.mg x=some u)(r:RelV v u)(hd:(x==("__debug__":Str))=false:=by decide):PE X (.Name x pos) (tC v):=
 fun _ _ _ H _ I h=>om I hg hm ⟨v,H,I,r,h⟩ hd
theorem kr{x:Str}{v:V}{u:Value}{pos:Pos}(hg:Gl X x)(hm:X.mg x=none)(hv:bootBuiltins x=some u)(r:RelV v u)(hn:x≠"__name__":=by decide)(hd:(x==("__debug__":Str))=false:=by decide):PE X (.Name x pos) (tC v):=
 fun _ _ _ H _ I h=>lA I hg hm hv ⟨v,H,I,r,h⟩ hn hd
variable{a b:Expr}{ta tb:TE}{pos:Pos}
def PC(X:Cx)(op:CmpOp)(a b:Expr)(t:TE):Prop:=
 ∀(pins:List (Addr×Obj))(s:Shared)(σ:St)(H:Hp)(Q:VK),Inv X pins σ H s→t σ H Q→
  wpAny (model X.prog X.w) X.A (eval a X.env) (fun v cf=>wpAny (model X.prog X.w) X.A (eval b X.env) (fun u qf=>wpAny (model X.prog X.w) X.A (compareOp op v u) (EP X pins σ Q) X.xe qf) X.xe cf) X.xe s
theorem bj(b:Expr){op:CmpOp}(h:op≠ .In)(h2:op≠ .NotIn):behindInMarks op b=false:=by
 have e1:(op==CmpOp.In)=false:=by cases op<;>first|rfl|exact absurd rfl h
 have e2:(op==CmpOp.NotIn)=false:=by cases op<;>first|rfl|exact absurd rfl h2
 cases b<;>simp[behindInMarks,e1,e2]
def Rb(ta:TE):TE:=fun σ H Q=>ta σ H fun x H1=>Q (.bl (decide (x= .cJ))) H1
def Nk(ta:TE):TE:=fun σ H Q=>ta σ H fun x H1=>Q (.bl (!decide (x= .cJ))) H1
theorem RelV.yl{x:V}{v:Value}(r:RelV x v):(v==Value.none)=decide (x= .cJ):=by
 cases x with
 |cJ=>cases r;rfl
 |bl _=>cases r;rfl
 |int _=>obtain⟨t,rfl⟩:=r;rfl
 |str _=>obtain⟨t,rfl⟩:=r;rfl
 |B4 _=>obtain⟨t,rfl⟩:=r;rfl
 |IE _=>obtain⟨t,rfl⟩:=r;rfl
 |ref _=>cases r;rfl
 |ty _=>cases r;rfl
theorem lB{j pos'}(ha:PE X a ta):PC X .Is a (.Constant .none j pos') (Rb ta):=by
 intro pins s σ H Q I h;refine cD Η fun v s1 ⟨x,H1,I1,r1,q1⟩=>?_
 exact Constant_none (is_none_gen ⟨.bl _,H1,I1,by rw[r1.yl];rfl,q1⟩)
theorem ot{j pos'}(ha:PE X a ta):PC X .IsNot a (.Constant .none j pos') (Nk ta):=by
 intro pins s σ H Q I h;refine cD Η fun v s1 ⟨x,H1,I1,r1,q1⟩=>?_
 exact Constant_none (isnot_none_gen ⟨.bl _,H1,I1,by rw[r1.yl];rfl,q1⟩)
inductive Nl(x:V)(H:Hp)(Q:Bool→Hp→Prop):Prop
 |mk (c:Bool) (_:x= .bl c) (_:Q c H):Nl x H Q
def tB(t:TE):TT:=fun σ H Q=>t σ H fun x H1=>Nl x H1 Q
theorem zG{op:CmpOp}{t:TE}(h:PC X op a b t)(h1:behindInMarks op b=false:=by first|exact bj _ (Nn) (Nn)|rfl):PE X (.Compare a [op] [b] pos) t:=fun pins s σ H Q I hw=>wpAny_Compare1 (h pins s σ H Q I hw) h1
theorem eC{op:CmpOp}{t:TE}(h:PC X op a b t)(h1:behindInMarks op b=false:=by first|exact bj _ (Nn) (Nn)|rfl):PT X (.Compare a [op] [b] pos) (tB t):=by
 intro pins s σ H Q I hw;refine wpAny_isTrue_Compare1 (cD (h pins s σ H _ I hw) fun v s1 h1=>cD h1 fun u s2 h2=>cD h2 fun c s3 ⟨x,H1,I1,r1,q1⟩=>?_) h1;obtain⟨d,rfl,q⟩:=q1;cases r1;exact wpAny_truthy_bool ⟨H1,I1,q⟩
theorem cH{e:Expr}{t:TE}(h:PE X e t)(he:∀whole,isTrue e X.env whole=(do let v←whole;standAt e.pos;holding [v] (truthy v)):=by intro _;rfl):PT X e (tB t):=by
 intro pins s σ H Q I hw;refine isTrue_plain (cD (h pins s σ H _ I hw) fun v s1 ⟨x,H1,I1,r1,q1⟩=>?_) (he _);obtain⟨d,rfl,q⟩:=q1;cases r1;exact wpAny_truthy_bool ⟨H1,I1,q⟩
variable{tA PQ:TT}{rest:List Expr}
def Rg(t u:TT):TT:=fun σ H Q=>t σ H fun c H1=>if c=true then u σ H1 Q else Q false H1
def Wt(t u:TT):TT:=fun σ H Q=>t σ H fun c H1=>if c=true then Q true H1 else u σ H1 Q
def Rh(t:TT):TT:=fun σ H Q=>t σ H fun c H1=>Q (!c) H1
theorem pw_and1(ha:PT X a tA):PW X (.BoolOp .And [a] pos) tA:=by
 intro wh pins s σ H Q I h;refine isTrue_and (cD (ha pins s σ H Q I h) fun c s1 e=>?_);cases c with
 |true=>exact isTrue_and_nil e
 |false=>exact e
theorem pw_or1(ha:PT X a tA):PW X (.BoolOp .Or [a] pos) tA:=by
 intro wh pins s σ H Q I h;refine isTrue_or (cD (ha pins s σ H Q I h) fun c s1 e=>?_);cases c with
 |false=>exact isTrue_or_nil e
 |true=>exact e
theorem pw_and(ha:PT X a tA)(hb:PW X (.BoolOp .And (b::rest) pos) PQ):PW X (.BoolOp .And (a::b::rest) pos) (Rg tA PQ):=by
 intro wh pins s σ H Q I h;refine isTrue_and (cD Η fun c s1 ⟨H1,I1,q1⟩=>?_);cases c with
 |true=>exact hb wh pins s1 σ H1 Q I1 q1
 |false=>exact⟨H1,I1,q1⟩
theorem pw_or(ha:PT X a tA)(hb:PW X (.BoolOp .Or (b::rest) pos) PQ):PW X (.BoolOp .Or (a::b::rest) pos) (Wt tA PQ):=by
 intro wh pins s σ H Q I h;refine isTrue_or (cD Η fun c s1 ⟨H1,I1,q1⟩=>?_);cases c with
 |true=>exact⟨H1,I1,q1⟩
 |false=>exact hb wh pins s1 σ H1 Q I1 q1
theorem dH(ha:PT X a tA):PT X (.UnaryOp .Not a pos) (Rh tA):=by
 intro pins s σ H Q I h;exact isTrue_not (ha pins s σ H (fun c H1=>Q (!c) H1) I h)
def Nm(ta tb:TE):TE:=fun σ H Q=>ta σ H fun x H1=>∃c,x= .bl c∧if c=true then tb σ H1 Q else Q (.bl false) H1
def aaK(ta:TE):TE:=fun σ H Q=>ta σ H fun x H1=>∃c,x= .bl c∧Q (.bl (!c)) H1
theorem wc{op}{t:TE}(h:PE X a t):PE X (.BoolOp op [a] pos) t:=fun pins s σ H Q I hw=>BoolOp_one (h pins s σ H Q I hw)
theorem we(ha:PE X a ta)(hb:PE X (.BoolOp .And (b::rest) pos) tb):PE X (.BoolOp .And (a::b::rest) pos) (Nm ta tb):=by
 intro pins s σ H Q I h;refine BoolOp_and (cD Η fun v s1 ⟨x,H1,I1,r1,q1⟩=>?_);obtain⟨c,rfl,q1⟩:=q1;cases r1;refine wpAny_truthy_bool ?_;cases c with
 |true=>exact hb pins s1 σ H1 Q I1 q1
 |false=>exact⟨.bl false,H1,I1,rfl,q1⟩
theorem J'(ha:PE X a ta):PE X (.UnaryOp .Not a pos) (aaK ta):=by
 intro pins s σ H Q I h;refine UnaryOp_ (cD Η fun v s1 ⟨x,H1,I1,r1,q1⟩=>?_);obtain⟨c,rfl,q1⟩:=q1;cases r1;exact not_of (wpAny_truthy_bool ⟨.bl (!c),H1,I1,rfl,q1⟩)
def Wu(t:TT)(ta tb:TE):TE:=fun σ H Q=>t σ H fun c H1=>if c=true then ta σ H1 Q else tb σ H1 Q
theorem ow{c:Expr}(hc:PT X c tA)(ha:PE X a ta)(hb:PE X b tb):PE X (.IfExp c a b pos) (Wu tA ta tb):=by
 intro pins s σ H Q I h;refine wpAny_IfExp (cD (hc pins s σ H _ I h) fun d s1 ⟨H1,I1,q1⟩=>?_);cases d with
 |true=>exact ha pins s1 σ H1 Q I1 q1
 |false=>exact hb pins s1 σ H1 Q I1 q1
end
def il(K:PySem.W.Frag)(H:Hp)(a:Addr)(xs:List V):Prop:=
 Rd H a (.lst xs)∨
  ∃(o:Obj)(its:Array Value)(n:Nat),K.lookup a=some o∧o.cls= .type "list"∧o.dict=none∧o.data= .seq its n∧its.size≤sizeLine∧Vals xs its.toList
def DO(K:PySem.W.Frag)(H:Hp)(a:Addr)(xs:List V):Prop:=
 Rd H a (.tup xs)∨
  ∃(o:Obj)(its:Array Value)(n:Nat),K.lookup a=some o∧o.cls= .type "tuple"∧o.data= .seq its n∧its.size≤sizeLine∧Vals xs its.toList
def Ri:Value→Option V
 | .none=>some .cJ
 | .bool b=>some (.bl b)
 | .int i _=>some (.int i)
 | .str x _=>some (.str x)
 | .bytes b _=>some (.B4 b)
 | .float b _=>some (.IE b)
 | .ref a=>some (.ref a)
 | .type n=>some (.ty n)
 | _=>none
theorem RelV.abs{x:V}{u:Value}(r:RelV x u):Ri u=some x:=by
 cases x with
 |cJ=>cases r;rfl
 |bl _=>cases r;rfl
 |int _=>obtain⟨t,rfl⟩:=r;rfl
 |str _=>obtain⟨t,rfl⟩:=r;rfl
 |B4 _=>obtain⟨t,rfl⟩:=r;rfl
 |IE _=>obtain⟨t,rfl⟩:=r;rfl
 |ref _=>cases r;rfl
 |ty _=>cases r;rfl
theorem RelV.inj{x y:V}{u:Value}(r:RelV x u)(q:RelV y u):x=y:=WK (r.abs.symm.trans q.abs)
theorem Vals.inj:∀{xs ys:List V}{us:List Value},Vals xs us→Vals ys us→xs=ys
 | _,_,_, .nil, .nil=>rfl
 | _,_,_, .cons r t, .cons r' t'=>by rw[r.inj r',Vals.inj t t']
section
variable{X:Cx}{pins:List (Addr×Obj)}{σ:St}{H:Hp}{s:Shared}{a:Addr}{xs ys:List V}
theorem il.of{K:PySem.W.Frag}(h:H a=some (.lst xs)):il K H a xs:= .inl (.inl h)
theorem DO.of{K:PySem.W.Frag}(h:H a=some (.tup xs)):DO K H a xs:= .inl (.inl h)
theorem Inv.list(I:Inv X pins σ H s)(h:il X.K H a xs):∃its:List Value,Vals xs its∧PlainL s.heap a its.toArray∧xs.length≤sizeLine:=by
 rcases h with h|⟨o,its,n,hk,hc,hd,hs,hz,r⟩
 ·obtain⟨z,its,n,r,e⟩:=h.ok I.bU;exact⟨its,r,⟨_,n,e,rfl,rfl,rfl⟩,z⟩
 ·refine⟨its.toList,r,⟨o,n,I.qe a o hk,hc,hd,by simpa using hs⟩,?_⟩;have e:=r.length;simp only[Array.length_toList]at e;omega
theorem Inv.tuple(I:Inv X pins σ H s)(h:DO X.K H a xs):∃its:List Value,Vals xs its∧IsTup s.heap a its.toArray∧xs.length≤sizeLine:=by
 rcases h with h|⟨o,its,n,hk,hc,hs,hz,r⟩
 ·obtain⟨z,its,r,p⟩:=h.ok I.bU;exact⟨its,r,p,z⟩
 ·refine⟨its.toList,r,⟨o,I.qe a o hk,hc,n,by simpa using hs⟩,?_⟩;have e:=r.length;simp only[Array.length_toList]at e;omega
theorem Inv.ym(I:Inv X pins σ H s)(h:il X.K H a xs)(h':il X.K H a ys):xs=ys:=by
 obtain⟨its,r,⟨o,n,e,_,_,d⟩,_⟩:=I.list h;obtain⟨its',r',⟨o',n',e',_,_,d'⟩,_⟩:=I.list h';rw[e]at e';cases e';rw[d]at d';injection d' with d1 _;have:its=its':=by simpa using congrArg Array.toList d1
 subst this;exact r.inj r'
end
abbrev Cx.abI(X:Cx)(E:Value→Shared→Prop):Cx:={X with xe:=E}
section
variable{X:Cx}{pins:List (Addr×Obj)}{σ:St}{H:Hp}{s:Shared}{E:Value→Shared→Prop}
end
section
variable{X:Cx}{st:Stmt}{rest:List Stmt}{t u:TS}{e:Expr}{te:TE}{pos:Pos}
def Np:TS:=fun D σ H=>D.nx σ H
def Rj(t u:TS):TS:=fun D σ H=>t {D with nx:=u D} σ H
theorem aQ:B7 X [] Np:=fun _ _ σ H _ I h=>wpAny_execs_nil ⟨σ,H,I,h⟩
theorem ax(h1:PS X st t)(h2:B7 X rest u):B7 X (st::rest) (Rj t u):=by
 intro pins s σ H D I h;refine wpAny_execs_cons (cD (h1 pins s σ H {D with nx:=u D} I h) fun f s1 q=>?_);cases f with
 |next=>
  obtain⟨bx,H',I',q⟩:=q;exact h2 pins s1 bx H' D I' q
 |ret v=>exact q
 |brk=>exact q
 |cont=>exact q
theorem ao(h1:PS X st t):B7 X [st] t:=by
 intro pins s σ H D I h;refine wpAny_execs_cons (cD (h1 pins s σ H D I h) fun f s1 q=>?_);cases f with
 |next=>exact wpAny_execs_nil q
 |ret v=>exact q
 |brk=>exact q
 |cont=>exact q
theorem Inv.quiet{pins:List (Addr×Obj)}{σ:St}{H:Hp}{s:Shared}(I:Inv X pins σ H s):interactive X.env=false:=by simp[interactive,I.ok.kind]
def Nq(te:TE):TS:=fun D σ H=>te σ H fun _ H1=>D.nx σ H1
theorem aY(he:PE X e te)(hs:swapsWith e none pos.line X.env=pure false:=by rfl):PS X (.Expr e pos) (Nq te):=by
 intro pins s σ H D I h;exact wpAny_Expr_any (cD Δ fun v s1 ⟨x,H1,I1,r1,q1⟩=>⟨σ,H1,I1,q1⟩) I.quiet hs
def Rk(te:TE):TS:=fun D σ H=>te σ H D.rt
theorem aN(he:PE X e te):PS X (.Return (some e) pos) (Rk te):=by
 intro pins s σ H D I h;exact wpAny_Return_some (cD Δ fun v s1 ⟨x,H1,I1,r1,q1⟩=>⟨x,σ,H1,I1,r1,q1⟩)
def aaE(c:TT)(t u:TS):TS:=fun D σ H=>c σ H fun b H1=>if b=true then t D σ H1 else u D σ H1
theorem bb{c:Expr}{a b:List Stmt}{tc:TT}(hc:PT X c tc)(ha:B7 X a t)(hb:B7 X b u):PS X (.If c a b pos) (aaE tc t u):=by
 intro pins s σ H D I h;refine wpAny_If (cD (hc pins s σ H _ I h) fun d s1 ⟨H1,I1,q1⟩=>?_);cases d with
 |true=>exact ha pins s1 σ H1 D I1 q1
 |false=>exact hb pins s1 σ H1 D I1 q1
end
abbrev TG:=V→St→Hp→(St→Hp→Prop)→Prop
abbrev IJ:=List V→St→Hp→(St→Hp→Prop)→Prop
def PG(X:Cx)(target:Expr)(t:TG):Prop:=
 ∀(pins:List (Addr×Obj))(s:Shared)(σ:St)(H:Hp)(v:V)(u:Value)(Q:St→Hp→Prop),Inv X pins σ H s→RelV v u→t v σ H Q→
  wpAny (model X.prog X.w) X.A (assign target X.env u) (fun _ s'=>∃bx H',Inv X pins bx H' s'∧Q bx H') X.xe s
def Nr(X:Cx)(ts:List Expr)(t:IJ):Prop:=
 ∀(pins:List (Addr×Obj))(s:Shared)(σ:St)(H:Hp)(vs:List V)(us:List Value)(Q:St→Hp→Prop),Inv X pins σ H s→Vals vs us→t vs σ H Q→
  wpAny (model X.prog X.w) X.A (assignInOrder ((assignEach ts X.env).map (·.2)) us) (fun _ s'=>∃bx H',Inv X pins bx H' s'∧Q bx H') X.xe s
abbrev Ka:=V→V→V→Hp→(Hp→Prop)→Prop
def Nt(X:Cx)(t:Ka):Prop:=
 ∀(pins:List (Addr×Obj))(s:Shared)(σ:St)(H:Hp)(o i v:V)(ov iv u:Value)(Q:Hp→Prop),Inv X pins σ H s→RelV o ov→RelV i iv→RelV v u→t o i v H Q→
  wpAny (model X.prog X.w) X.A (setItem ov iv u) (fun _ s'=>∃H',Inv X pins σ H' s'∧Q H') X.xe s
section
variable{X:Cx}{pos:Pos}
def A3(i:Nat):TG:=fun v σ H Q=>Q (σ.set i (some v)) H
theorem aK{i:Nat}{x:Str}(hN:X.N.Nodup)(hi:X.N[i]?=some x)(hx:Loc X.env.scope x)(hf:X.fn x=true∨X.env.scope.names.lookup x=some .local:=by first|exact .inl rfl|exact .inr rfl|assumption):PG X (.Name x pos) (A3 i):=by
 intro pins s σ H v u Q I r h;exact wpAny_assign_Name (yk I hN hi hx r (fun s' I'=>⟨_,H,I',h⟩) hf)
def Ro:IJ:=fun vs σ H Q=>vs=[]∧Q σ H
def Nu(t:TG)(u:IJ):IJ:=fun vs σ H Q=>∃v r,vs=v::r∧t v σ H fun bx H'=>u r bx H' Q
theorem fF:Nr X [] Ro:=by
 intro pins s σ H vs us Q I r h;obtain⟨e,h⟩:=h;subst e;cases r;exact assignInOrder_nil ⟨σ,H,I,h⟩
theorem a7{e:Expr}{es:List Expr}{t:TG}{u:IJ}(h1:PG X e t)(h2:Nr X es u)
  (hs:(assignEach (e::es) X.env).map (·.2)=assign e X.env::(assignEach es X.env).map (·.2):=by rfl):Nr X (e::es) (Nu t u):=by
 intro pins s σ H vs us Q I r h;obtain⟨v,vr,e1,h⟩:=h;subst e1;cases r with
 |cons r rr=>
  rw[hs];refine assignInOrder_cons (cD (h1 pins s σ H _ _ _ I r h) fun _ s1 ⟨Mm,H1,I1,q1⟩=>?_);exact h2 pins s1 Mm H1 _ _ Q I1 rr q1
inductive Kb(K:PySem.W.Frag)(n:Nat)(t:IJ)(v:V)(σ:St)(H:Hp)(Q:St→Hp→Prop):Prop
 |mk (a:_) (xs:_) (_:v= .ref a) (_:DO K H a xs) (_:xs.length=n) (_:t xs σ H Q):Kb K n t v σ H Q
theorem Kc{es:List Expr}{k:Nat}{t:IJ}{n:Nat}(hc:X.calm=true)(h:Nr X es t)
  (hn:(assignEach es X.env).length=n:=by rfl) (vp:(assignEach es X.env).findIdx? (·.1)=none:=by rfl):PG X (.Tuple es k pos) (Kb X.K n t):=by
 intro pins s σ H v u Q I r hw;obtain⟨a,xs,e1,hq,hl,hw⟩:=hw;subst e1;cases r;obtain⟨its,rv,ht,hz⟩:=I.tuple hq;refine assign_Tuple_tuple (I.ok.hd hc) ht (by simp[hn,←hl,rv.length]) vp fun h' hx=>?_
 have I1:Inv X pins σ H {s with heap:=h'}:=I.kept (t':=s.toks) fun b o e=>hx b o (ZM (Y8 e)) e
 exact h pins _ σ H xs _ Q I1 (by simpa using rv) hw
def Rp(to ti:TE)(t:Ka):TG:=fun v σ H Q=>to σ H fun o H1=>ti σ H1 fun i H2=>t o i v H2 fun H3=>Q σ H3
theorem Kd{o i:Expr}{to ti:TE}{t:Ka}(ho:PE X o to)(hi:PE X i ti)(hs:Nt X t)
  (ha:∀v,assign (.Subscript o i pos) X.env v=(do
   let ov←holding [v] (eval o X.env)
   let iv←holding [v,ov] (eval i X.env)
   standAt pos
   holding [v,ov,iv] (setItem ov iv v)
   release [v,ov,iv] []):=by intro _;rfl):PG X (.Subscript o i pos) (Rp to ti t):=by
 intro pins s σ H v u Q I r h;rw[ha];refine wpAny_bind (wpAny_holding (cD (ho pins s σ H _ I h) fun ov s1 ⟨x,H1,I1,r1,q1⟩=>?_));refine wpAny_bind (wpAny_holding (cD (hi pins s1 σ H1 _ I1 q1) fun iv s2 ⟨y,H2,I2,r2,q2⟩=>?_));refine wpAny_bind (wpAny_standAt (Xz (wpAny_holding (cD (hs pins s2 σ H2 x y v ov iv u _ I2 r1 r2 r q2) fun _ s3 ⟨H3,I3,q3⟩=>?_))));exact wpAny_release ⟨σ,H3,I3,q3⟩
def Ke(te:TE)(g:TG):TS:=fun D σ H=>te σ H fun x H1=>g x σ H1 D.nx
theorem zH{tg e:Expr}{te:TE}{g:TG}(he:PE X e te)(hg:PG X tg g)(hs:swapsWithSole [tg] e pos.line X.env=pure false:=by rfl)(hw:swappedStores [tg] e X.env=pure none:=by rfl)
  (h1:(assignEach [tg] X.env).map (·.2)=[assign tg X.env]:=by rfl):PS X (.Assign [tg] e pos) (Ke te g):=by
 intro pins s σ H D I h;refine wpAny_Assign_stores (cD Δ fun v s1 ⟨x,H1,I1,r1,q1⟩=>?_) hs hw;rw[h1];exact cD (hg pins s1 σ H1 x v _ I1 r1 q1) fun _ s2 q=>q
theorem aG{i:Nat}{x:Str}{e:Expr}{te:TE}{pos':Pos}(hN:X.N.Nodup)(hi:X.N[i]?=some x)(hx:Loc X.env.scope x)(he:PE X e te)(hs:swapsWith e (some (.Name x pos')) pos.line X.env=pure false:=by rfl)(hf:X.fn x=true∨X.env.scope.names.lookup x=some .local:=by first|exact .inl rfl|exact .inr rfl|assumption):
  PS X (.Assign [.Name x pos'] e pos) (Ke te (A3 i)):=by
 intro pins s σ H D I h;refine wpAny_Assign_Name (cD Δ fun v s1 ⟨y,H1,I1,r1,q1⟩=>?_) hs;exact yk I1 hN hi hx r1 (fun s2 I2=>⟨_,H1,I2,q1⟩) hf
end
section
variable{X:Cx}{pos:Pos}
def Kf(c:TT)(tb:TS):TS:=fun D σ H=>∃W:Nat→St→Hp→Prop,(∃m,W m σ H)∧∀m σ H,W m σ H→
 c σ H fun b H1=>if b=true then ∃N:St→Hp→Prop,(∀bx H',N bx H'→∃m',m'<m∧W m' bx H')∧tb {D with nx:=N,ct:=N,bk:=D.nx} σ H1 else D.nx σ H1
theorem sP{c:Expr}{body:List Stmt}{tc:TT}{tb:TS}(hp:PassesOwn (model X.prog X.w) X.A X.env X.xe)(hc:PT X c tc)(hb:B7 X body tb):PS X (.While c body [] pos) (Kf tc tb):=by
 intro pins s σ H D I h;obtain⟨W,⟨m0,w0⟩,turn⟩:=h;refine wpAny_While (codeAny_whileLoop (fun n s'=>∃bx H',Inv X pins bx H' s'∧W n bx H') ?_ m0 ⟨σ,H,I,w0⟩);rintro n s1 ⟨Mm,H1,I1,w1⟩;refine wpAny_passesOwn hp (cD (hc pins s1 Mm H1 _ I1 (turn n Mm H1 w1)) fun b s2 ⟨H2,I2,q2⟩=>?_);cases b with
 |true=>
  obtain⟨N,hN,q2⟩:=q2;rw[if_pos rfl];refine wpAny_passesOwn hp (cD (hb pins s2 Mm H2 _ I2 q2) fun f s3 q3=>?_);cases f with
  |next=>
   obtain⟨DP,H3,I3,n3⟩:=q3;obtain⟨m',hm,w3⟩:=hN DP H3 n3;exact⟨m',hm,DP,H3,I3,w3⟩
  |cont=>
   obtain⟨DP,H3,I3,n3⟩:=q3;obtain⟨m',hm,w3⟩:=hN DP H3 n3;exact⟨m',hm,DP,H3,I3,w3⟩
  |brk=>exact q3
  |ret v=>exact q3
 |false=>
  rw[Dt Bool.false_ne_true];exact wpAny_execs_nil ⟨Mm,H2,I2,q2⟩
end
structure It where
 go:Nat→Hp→Prop
 GI:Nat→Hp→V→Hp→Prop
 stop:Nat→Hp→Prop
def ir(X:Cx)(pins:List (Addr×Obj))(H:Hp)(b:Addr):Prop:=
 H b=none∧b≠X.env.locals∧b∉X.fs∧(b∈X.ex∨X.dA.heap.objs.size≤b)∧(∀x c,X.env.cells.lookup x=some c→c≠b)∧∀p∈X.pn++pins,p.1≠b
theorem Inv.uF{X:Cx}{pins:List (Addr×Obj)}{σ:St}{H H':Hp}{s:Shared}{b:Addr}(I:Inv X pins σ H s)(hb:s.heap.objs.size≤b)(hn:H' b=none):ir X pins H' b:=by
 refine⟨hn,Nat.ne_of_gt (Zu I.lt hb),I.Q8 hb, .inr (ZN I.sz hb),fun x c e z=>?_,fun p hp z=>?_⟩
 ·obtain⟨v,q⟩:=I.cell x c e;exact V' (Zu q.lt (by rw[z];exact hb)) (Nat.lt_irrefl _)
 ·exact V' (Zu (Y8 (I.pin p hp).1) (by rw[z];exact hb)) (Nat.lt_irrefl _)
structure Turn(P:Program)(w:World)(K:PySem.W.Frag)(tg:Expr)(J:It)(fp:List Addr)(it:Addr)(tn:Nat→Heap→Prop):Prop where
 mem:it∈fp
 obj:∀i h,tn i h→∀b∈fp,∃o,h.get? b=some o∧∀v,o.data≠ .cell v
 keep:∀i h h',tn i h→(∀b∈fp,∀o,h.get? b=some o→h'.get? b=some o)→tn i h'
 item:∀(X:Cx),X.prog=P→X.w=w→X.K=K→X.calm=true→∀(i:Nat)(pins:List (Addr×Obj))(s:Shared)(σ:St)(H:Hp)(E:Value→Shared→Prop),Inv X pins σ H s→(∀b∈fp,ir X pins H b)→tn i s.heap→J.go i H→
  wpAny (model P w) X.A (pyNext (.ref it)) (fun r s1=>∃u,r=some u∧
   wpAny (model P w) X.A (letOwnedTupleGo tg (.ref it) u) (fun _ s2=>∃x H',Inv X pins σ H' s2∧RelV x u∧J.GI i H x H'∧tn (i+1) s2.heap∧∀b∈fp,H' b=none) E s1) E s
 done:∀(X:Cx),X.prog=P→X.w=w→X.K=K→X.calm=true→∀(i:Nat)(pins:List (Addr×Obj))(s:Shared)(σ:St)(H:Hp)(E:Value→Shared→Prop),Inv X pins σ H s→(∀b∈fp,ir X pins H b)→tn i s.heap→J.stop i H→
  wpAny (model P w) X.A (pyNext (.ref it)) (fun r s1=>r=none∧Inv X pins σ H s1) E s
 self:∀(A:Around)(i:Nat)(s:Shared)(Q:Value→Shared→Prop)(E:Value→Shared→Prop),tn i s.heap→Q (.ref it) s→wpAny (model P w) A (pyIter (.ref it)) Q E s
abbrev TI:=St→Hp→(It→Hp→Prop)→Prop
def Rq(X:Cx)(pins:List (Addr×Obj))(σ:St)(tg:Expr)(R:It→Hp→Prop)(Rr:Value)(s2:Shared):Prop:=
 ∃(it:Addr)(fp:List Addr)(tn:Nat→Heap→Prop)(J:It)(H':Hp),Rr= .ref it∧Inv X pins σ H' s2∧Turn X.prog X.w X.K tg J fp it tn∧tn 0 s2.heap∧(∀b∈fp,ir X pins H' b)∧R J H'
def PI(X:Cx)(tg iter:Expr)(wi:TI):Prop:=
 ∀(pins:List (Addr×Obj))(s:Shared)(σ:St)(H:Hp)(R:It→Hp→Prop),Inv X pins σ H s→wi σ H R→
  wpAny (model X.prog X.w) X.A (eval iter X.env) (fun v s1=>wpAny (model X.prog X.w) X.A (pyIter v) (Rq X pins σ tg R) X.xe s1) X.xe s
theorem yn{M:Model}{A:Around}{E:Value→Shared→Prop}{s:Shared}{tg:Expr}{it:Addr}{u:Value}{o:Obj}{n:String}{vs:Array Value}{Q:Unit→Shared→Prop}(ho:s.heap.get? it=some o)(hc:o.cls= .type n)(hd:o.data= .fields vs)
  (hn:["enumerate","zip","dict_itemiterator","dict_reverseitemiterator","odict_iterator","itertools.zip_longest","itertools.pairwise"].contains n=false) (hQ:Q () s):wpAny M A (letOwnedTupleGo tg (.ref it) u) Q E s:=by
 unfold letOwnedTupleGo;cases tg<;>first
  |exact W0 hQ
  |(cases u<;>first
    |exact W0 hQ
    |(refine wpAny_bind (wpAny_load ho ?_)
      rw[hc,hd];show wpAny M A (if (["enumerate","zip","dict_itemiterator","dict_reverseitemiterator","odict_iterator","itertools.zip_longest","itertools.pairwise"].contains n&&vs[0]?==some (rawInt _))=true then _ else _) Q E s;rw[Dt (by intro h;rw[hn,Bool.false_and]at h;cases h)];exact W0 hQ))
def Mn(K:PySem.W.Frag)(a:Addr):It:=
 ⟨fun i H=>∃xs x,il K H a xs∧xs[i]?=some x,fun i H x H'=>H'=H∧∀xs,il K H a xs→xs[i]?=some x,fun i H=>∃xs,il K H a xs∧xs.length≤i⟩
def Kg(lo:Int)(n:Nat):It:=⟨fun i _=>i<n,fun i H x H'=>H'=H∧x= .int (lo+i),fun i _=>n≤i⟩
theorem B9{P:Program}{w:World}{K:PySem.W.Frag}{tg:Expr}(a it:Addr):Turn P w K tg (Mn K a) [it] it (fun i h=>h.IsListIter it a i) where
 mem:=IM
 obj:=fun i h st b hb=>by
  have e:b=it:=by simpa using hb
  subst e;obtain⟨o,e,c,d⟩:=st;exact⟨o,e,fun v z=>by rw[d]at z;cases z⟩
 keep:=fun i h h' st k=>st.at fun o e=>k it (IM) o e
 item:=by
  intro X hP hw hK hc i pins s σ H E I hf st hg;subst hP hw hK;obtain⟨xs,x,hq,hx⟩:=hg;obtain⟨its,rv,p,hz⟩:=I.list hq;obtain⟨u,hu,ru⟩:=rv.get hx;obtain⟨f0,f1,f2,f3,f4,f5⟩:=hf it (IM);refine wpAny_pyNext_list_item st p.isList (x:=u) (by simpa using hu) fun h' aT sb=>?_
  have I1:Inv X pins σ H {s with heap:=h'}:=I.turned (t':=s.toks) (fun b o hb e=>(sb.2 b hb).trans e) f0 f1 f3 f4 f5;obtain⟨o,e,c,d⟩:=id aT;exact⟨u,rfl,yn (s:={s with heap:=h'}) e c d (Nn) ⟨x,H,I1,ru,⟨rfl,fun ys hy=>by rw[I.ym hy hq];exact hx⟩,aT,fun b hb=>(hf b hb).1⟩⟩
 done:=by
  intro X hP hw hK hc i pins s σ H E I hf st hg;subst hP hw hK;obtain⟨xs,hq,hx⟩:=hg;obtain⟨its,rv,p,hz⟩:=I.list hq;obtain⟨f0,f1,f2,f3,f4,f5⟩:=hf it (IM);have hl:=rv.length;exact wpAny_pyNext_list_end (I.ok.hd hc) st p.isList (by simp;omega) fun h' eb=>⟨rfl,I.turned (t':=s.toks) (fun b o hb e=>eb b o hb e) f0 f1 f3 f4 f5⟩
 self:=fun _ _ _ _ _ st h=>wpAny_pyIter_listiter st h
theorem zI{P:Program}{w:World}{K:PySem.W.Frag}{tg:Expr}(it:Addr)(lo:Int)(n:Nat):Turn P w K tg (Kg lo n) [it] it (fun i h=>IsRangeIter h it (lo+(i:Nat)*1) ((n:Int)-(i:Nat)) 1) where
 mem:=IM
 obj:=fun i h st b hb=>by
  have e:b=it:=by simpa using hb
  subst e;exact⟨_,st,fun v z=>by
   have z':Data.fields _=Data.cell v:=z;cases z'⟩
 keep:=fun i h h' st k=>k it (IM) _ st
 item:=by
  intro X hP hw hK hc i pins s σ H E I hf st hg;subst hP hw hK;obtain⟨f0,f1,f2,f3,f4,f5⟩:=hf it (IM);have W:=Walks.range (prog:=X.prog) (w:=X.w) (I.ok.hd hc) it lo 1 n;refine W.item i s _ _ hg st fun v h' tk hv aT kk=>?_
  obtain⟨t,rfl⟩:=hv;have I1:Inv X pins σ H {s with heap:=h',toks:=tk}:=I.turned (fun b o hb e=>kk b o (by simpa using hb) e) f0 f1 f3 f4 f5;refine⟨_,rfl,yn (s:={s with heap:=h',toks:=tk}) (n:="range_iterator") aT rfl rfl (Nn) ⟨.int (lo+i),H,I1,⟨t,?_⟩,⟨rfl,rfl⟩,aT,fun b hb=>(hf b hb).1⟩⟩;rw[Int.mul_one]
 done:=by
  intro X hP hw hK hc i pins s σ H E I hf st hg;subst hP hw hK;obtain⟨f0,f1,f2,f3,f4,f5⟩:=hf it (IM);exact wpAny_pyNext_range_end (I.ok.hd hc) st (by have:n≤i:=hg;omega) fun h' eb=>⟨rfl,I.turned (t':=s.toks) (fun b o hb e=>eb b o hb e) f0 f1 f3 f4 f5⟩
 self:=fun _ _ _ _ _ st h=>wpAny_pyIter_rangeiter st h
section
variable{X:Cx}{tg:Expr}
def IK(K:PySem.W.Frag)(tl:TE):TI:=fun σ H R=>tl σ H fun x H1=>∃a,x= .ref a∧(∃xs,il K H1 a xs)∧R (Mn K a) H1
theorem GJ{l:Expr}{tl:TE}(hl:PE X l tl):PI X tg l (IK X.K tl):=by
 intro pins s σ H R I h;refine cD (hl pins s σ H _ I h) fun v s1 ⟨x,H1,I1,r1,q1⟩=>?_
 obtain⟨a,e,⟨xs,hq⟩,q⟩:=q1;subst e;cases r1;obtain⟨its,rv,p,hz⟩:=I1.list hq;refine wpAny_pyIter_list p.isList ?_;refine⟨s1.heap.objs.size,[s1.heap.objs.size],_,_,H1,rfl,I1.kept (t':=s1.toks) fun b o e=>YG e,B9 a _,⟨_,Heap.get?_push_size _ rfl,rfl,rfl⟩,fun b hb=>?_,q⟩;have e:b=s1.heap.objs.size:=by simpa using hb
 subst e;exact I1.uF YH (I1.bU.fresh YH)
theorem DQ{pins:List (Addr×Obj)}{σ:St}{H:Hp}{s:Shared}{R:It→Hp→Prop}{E:Value→Shared→Prop}{lo hi:Int}{t u v:Tok}{tk:Nat}(I:Inv X pins σ H s)(h1:-(2^62)≤lo)(h2:lo<2^62)(h3:-(2^62)≤hi)(h4:hi<2^62)
  (q:R (Kg lo (hi-lo).toNat) H):wpAny (model X.prog X.w) X.A (pyIter (.ref s.heap.objs.size)) (Rq X pins σ tg R) E {s with heap:=s.heap.push {cls:= .type "range",data:= .fields #[.int lo t, .int hi u, .int 1 v]},toks:=tk}:=by
 refine wpAny_pyIter_range (IsRange.new ..) (small_one h1 h2 h3 h4) ?_;have I1:Inv X pins σ H {s with heap:=s.heap.push {cls:= .type "range",data:= .fields #[.int lo t, .int hi u, .int 1 v]},toks:=tk}:=I.kept fun b o e=>YG e
 refine⟨(s.heap.push {cls:= .type "range",data:= .fields #[.int lo t, .int hi u, .int 1 v]}).objs.size,[(s.heap.push {cls:= .type "range",data:= .fields #[.int lo t, .int hi u, .int 1 v]}).objs.size],_,_,H,rfl,
  I1.kept (t':=tk) fun b o e=>YG e,zI _ lo (hi-lo).toNat,?_,fun b hb=>?_,q⟩
 ·have e1:lo+((0:Nat):Int)*1=lo:=IM;have e2:(((hi-lo).toNat:Nat):Int)-((0:Nat):Int)=Builtin.Range.rangeSize lo hi 1:=by rw[rangeSize_one];split<;>omega
  show IsRangeIter _ _ (lo+((0:Nat):Int)*1) ((((hi-lo).toNat:Nat):Int)-((0:Nat):Int)) 1;rw[e1,e2];exact Heap.get?_push_size _ rfl
 ·have e:b=(s.heap.push {cls:= .type "range",data:= .fields #[.int lo t, .int hi u, .int 1 v]}).objs.size:=by simpa using hb
  subst e;exact I1.uF YH (I1.bU.fresh YH)
def Nv(ta:TA):TI:=fun σ H R=>ta σ H fun vs H1=>∃j:Int,vs=[.int j]∧-(2^62)≤j∧j<2^62∧R (Kg 0 j.toNat) H1
theorem eA{a:Expr}{ta:TA}{p pos:Pos}(hg:Gl X "range")(hm:X.mg "range"=none)(ha:PA X [a] ta)(hs:starEach [a] X.env=[(false,eval a X.env)]:=by rfl):PI X tg (.Call (.Name "range" p) [a] [] pos) (Nv ta):=by
 intro pins s σ H R I h;refine Call_ (lA I hg hm boot_range (PyProof.Rows.callWith_type1 (cD (ha pos pins s σ H _ I h) fun us s1 ⟨vs,H1,I1,r1,q1⟩=>?_) hs rfl));obtain⟨j,e,q1,q2,q⟩:=q1;subst e;cases r1 with
 |cons r rr=>
  cases rr;obtain⟨t,rfl⟩:=r;exact call_range_1 (DQ I1 Zd (by omega) q1 q2 (by simpa using q))
def Rt(wi:TI)(g:TG)(tb:TS):TS:=fun D σ H=>wi σ H fun J H1=>∃W:Nat→Nat→St→Hp→Prop,(∃m,W 0 m σ H1)∧∀i m σ H,W i m σ H→
 (J.stop i H∧D.nx σ H)∨(J.go i H∧∃N:St→Hp→Prop,(∀bx H',N bx H'→∃m',m'<m∧W (i+1) m' bx H')∧∀x H',J.GI i H x H'→g x σ H' fun fA H2=>tb {D with nx:=N,ct:=N,bk:=D.nx} fA H2)
def sQ(fp:List Addr)(h:Heap):List (Addr×Obj):=fp.filterMap fun b=>(h.get? b).map fun o=>(b,o)
theorem gK{fp:List Addr}{h:Heap}{b:Addr}{o:Obj}(hb:b∈fp)(e:h.get? b=some o):(b,o)∈sQ fp h:=List.mem_filterMap.mpr ⟨b,hb,by rw[e];rfl⟩
theorem B_{fp:List Addr}{h:Heap}{p:Addr×Obj}(hp:p∈sQ fp h):p.1∈fp∧h.get? p.1=some p.2:=by
 obtain⟨b,hb,e⟩:=List.mem_filterMap.mp hp;cases q:h.get? b with
 |none=>rw[q]at e;cases e
 |some o=>
  rw[q]at e;have e':(b,o)=p:=WK e;subst e';exact⟨hb,q⟩
theorem Inv.pinned{pins:List (Addr×Obj)}{σ:St}{H:Hp}{s:Shared}{fp:List Addr}(I:Inv X pins σ H s)(hf:∀b∈fp,ir X pins H b)(ho:∀b∈fp,∃o,s.heap.get? b=some o∧∀v,o.data≠ .cell v):Inv X (pins++sQ fp s.heap) σ H s:=
 I.AY fun p hp=>(List.mem_append.mp hp).elim (fun z=>I.pin p (ZI z)) fun z=>by
  obtain⟨hb,e⟩:=B_ z;obtain⟨f0,f1,f2,_⟩:=hf p.1 hb;obtain⟨o,e',d⟩:=ho p.1 hb;rw[e]at e';cases e';exact⟨e,f0,f1,f2,d⟩
theorem Inv.lC{pins pl:List (Addr×Obj)}{σ:St}{H:Hp}{s:Shared}(I:Inv X (pins++pl) σ H s):Inv X pins σ H s:=I.AY fun p hp=>I.pin p (ZI (Zw hp))
theorem bE{iter:Expr}{body:List Stmt}{wi:TI}{g:TG}{tb:TS}{pos:Pos}(hp:PassesOwn (model X.prog X.w) X.A X.env X.xe)(hc:X.calm=true)(hi:PI X tg iter wi)(hg:PG X tg g)(hb:B7 X body tb)
  (hs:∀x,foldedSetIterable iter X.env x=pure x:=by intro _;rfl):PS X (.For tg iter body [] pos) (Rt wi g tb):=by
 intro pins s σ H D I h;refine wpAny_For (cD (hi pins s σ H _ I h) fun v s1 h1=>cD h1 fun Rr s2 h2=>?_) hs;obtain⟨it,fp,tn,J,H2,e,I2,T,dP,f2,W,⟨m0,w0⟩,turn⟩:=h2;subst e;have zJ:∀{H':Hp},(∀b∈fp,H' b=none)→∀b∈fp,ir X pins H' b:=fun hn b hb=>⟨hn b hb,(f2 b hb).2⟩
 refine codeAny_forLoop_any (fun n s'=>∃i bx H',Inv X pins bx H' s'∧tn i s'.heap∧(∀b∈fp,H' b=none)∧W i n bx H') ?_ m0 ⟨0,σ,H2,I2,dP,fun b hb=>(f2 b hb).1,w0⟩;rintro n s3 ⟨i,DP,H3,I3,DR,Mo,w3⟩;rcases turn i n DP H3 w3 with⟨stop,qn⟩|⟨go,N,hN,step⟩
 ·refine wpAny_passesOwn hp (cD (T.done X rfl rfl rfl hc i pins s3 DP H3 X.xe I3 (zJ Mo) DR stop) fun r s4 ⟨hr,I4⟩=>?_);subst hr;exact wpAny_execs_nil ⟨DP,H3,I4,qn⟩
 ·refine wpAny_passesOwn hp (cD (T.item X rfl rfl rfl hc i pins s3 DP H3 X.xe I3 (zJ Mo) DR go) fun r s4 ⟨u,hr,h4⟩=>?_);subst hr;refine wpAny_passesOwn hp (cD h4 fun _ s5 ⟨x,H5,I5,r5,y5,Mp,PR⟩=>?_);have Ww:=I5.pinned (zJ PR) (T.obj _ _ Mp);refine wpAny_passesOwn hp (cD (hg _ s5 DP H5 x u _ Ww r5 (step x H5 y5)) fun _ s6 ⟨Wx,H6,I6,q6⟩=>?_);refine wpAny_passesOwn hp (cD (hb _ s6 Wx H6 _ I6 q6) fun f s7 q7=>?_);have again:∀{DS:St}{H7:Hp},Inv X (pins++sQ fp s5.heap) DS H7 s7→N DS H7→∃m,m<n∧∃i bx H',Inv X pins bx H' s7∧tn i s7.heap∧(∀b∈fp,H' b=none)∧W i m bx H':=fun{DS H7} I7 n7=>by
   obtain⟨m',hm,w7⟩:=hN DS H7 n7;refine⟨m',hm,i+1,DS,H7,I7.lC,T.keep _ _ _ Mp fun b hb o e=>(I7.pin (b,o) (ZI (ZI (gK hb e)))).1,fun b hb=>?_,w7⟩;obtain⟨o,e,d⟩:=T.obj _ _ Mp b hb;exact(I7.pin (b,o) (ZI (ZI (gK hb e)))).2.1
  cases f with
  |next=>obtain⟨DS,H7,I7,n7⟩:=q7;exact again I7 n7
  |cont=>obtain⟨DS,H7,I7,n7⟩:=q7;exact again I7 n7
  |brk=>obtain⟨DS,H7,I7,q7⟩:=q7;exact⟨DS,H7,I7.lC,q7⟩
  |ret v=>obtain⟨x7,DS,H7,I7,r7,q7⟩:=q7;exact⟨x7,DS,H7,I7.lC,r7,q7⟩
end
theorem bW{K:PySem.W.Frag}{a:Addr}{xs:List V}{g:TG}{tb:TS}{D:Ends}{σ:St}{H:Hp}(Pv:Nat→St→Hp→Prop)(h0:Pv 0 σ H)(hl:∀i σ H,i≤xs.length→Pv i σ H→il K H a xs)
  (hs:∀i x σ H,xs[i]?=some x→Pv i σ H→g x σ H fun fA H2=>tb {D with nx:=Pv (i+1),ct:=Pv (i+1),bk:=D.nx} fA H2) (hd:∀σ H,Pv xs.length σ H→D.nx σ H):
  ∃W:Nat→Nat→St→Hp→Prop,(∃m,W 0 m σ H)∧∀i m σ H,W i m σ H→
   ((Mn K a).stop i H∧D.nx σ H)∨((Mn K a).go i H∧∃N:St→Hp→Prop,(∀bx H',N bx H'→∃m',m'<m∧W (i+1) m' bx H')∧∀x H',(Mn K a).GI i H x H'→g x σ H' fun fA H2=>tb {D with nx:=N,ct:=N,bk:=D.nx} fA H2):=by
 refine⟨fun i m σ H=>m=xs.length-i∧i≤xs.length∧Pv i σ H,⟨xs.length,IM,Nat.zero_le _,h0⟩,?_⟩;rintro i m σ H ⟨rfl,hi,p⟩;have q:=hl i σ H hi p;by_cases hZ:i<xs.length
 ·refine .inr ⟨⟨xs,xs[i],q,by simp[hZ]⟩,Pv (i+1),fun bx H' p'=>⟨xs.length-(i+1),by omega,rfl,hZ,p'⟩,fun x H' y=>?_⟩;obtain⟨e,y⟩:=y;subst e;exact hs i x σ _ (y xs q) p
 ·have e:i=xs.length:=by omega
  subst e;exact .inl ⟨⟨xs,q,Nat.le_refl _⟩,hd σ H p⟩
theorem fo{lo:Int}{n:Nat}{g:TG}{tb:TS}{D:Ends}{σ:St}{H:Hp}(Pv:Nat→St→Hp→Prop)(h0:Pv 0 σ H)
  (hs:∀i σ H,i<n→Pv i σ H→g (.int (lo+i)) σ H fun fA H2=>tb {D with nx:=Pv (i+1),ct:=Pv (i+1),bk:=D.nx} fA H2) (hd:∀σ H,Pv n σ H→D.nx σ H):
  ∃W:Nat→Nat→St→Hp→Prop,(∃m,W 0 m σ H)∧∀i m σ H,W i m σ H→
   ((Kg lo n).stop i H∧D.nx σ H)∨((Kg lo n).go i H∧∃N:St→Hp→Prop,(∀bx H',N bx H'→∃m',m'<m∧W (i+1) m' bx H')∧∀x H',(Kg lo n).GI i H x H'→g x σ H' fun fA H2=>tb {D with nx:=N,ct:=N,bk:=D.nx} fA H2):=by
 refine⟨fun i m σ H=>m=n-i∧i≤n∧Pv i σ H,⟨n,IM,Nat.zero_le _,h0⟩,?_⟩;rintro i m σ H ⟨rfl,hi,p⟩;by_cases hZ:i<n
 ·refine .inr ⟨hZ,Pv (i+1),fun bx H' p'=>⟨n-(i+1),by omega,rfl,hZ,p'⟩,fun x H' y=>?_⟩;obtain⟨e,y⟩:=y;subst e y;exact hs i σ _ hZ p
 ·have e:i=n:=by omega
  subst e;exact .inl ⟨Nat.le_refl _,hd σ H p⟩
abbrev R2:=V→V→Hp→VK→Prop
def rM(X:Cx)(f:Value→Value→Sem Value)(r:R2):Prop:=
 ∀(pins:List (Addr×Obj))(s:Shared)(σ:St)(H:Hp)(x y:V)(v u:Value)(Q:VK),Inv X pins σ H s→RelV x v→RelV y u→r x y H Q→
  wpAny (model X.prog X.w) X.A (f v u) (EP X pins σ Q) X.xe s
def Ru(X:Cx)(f:Value→Sem Value)(r:V→Hp→VK→Prop):Prop:=
 ∀(pins:List (Addr×Obj))(s:Shared)(σ:St)(H:Hp)(x:V)(v:Value)(Q:VK),Inv X pins σ H s→RelV x v→r x H Q→
  wpAny (model X.prog X.w) X.A (f v) (EP X pins σ Q) X.xe s
def iD(X:Cx)(f:Value)(r:List V→Hp→VK→Prop):Prop:=
 ∀(pins:List (Addr×Obj))(s:Shared)(σ:St)(H:Hp)(xs:List V)(us:List Value)(Q:VK),Inv X pins σ H s→Vals xs us→r xs H Q→
  wpAny (model X.prog X.w) X.A (call f us) (EP X pins σ Q) X.xe s
def PU(r:R2)(ta tb:TE):TE:=fun σ H Q=>ta σ H fun x H1=>tb σ H1 fun y H2=>r x y H2 Q
def Wz(r:V→Hp→VK→Prop)(ta:TE):TE:=fun σ H Q=>ta σ H fun x H1=>r x H1 Q
inductive rI(C:Int→Int→Prop)(g:Int→Int→V)(x:V)(y:V)(H:Hp)(Q:VK):Prop
 |mk (i:_) (j:_) (_:x= .int i) (_:y= .int j) (_:C i j) (_:Q (g i j) H):rI C g x y H Q
inductive GK(g:Int→Int→V)(x:V)(y:V)(H:Hp)(Q:VK):Prop
 |mk (i:_) (j:_) (_:x= .int i) (_:y= .int j) (_:Q (g i j) H):GK g x y H Q
inductive rU(g:Int→V)(x:V)(H:Hp)(Q:VK):Prop
 |mk (i:_) (_:x= .int i) (_:Q (g i) H):rU g x H Q
section
variable{X:Cx}{a b c:Expr}{ta tb tc:TE}{pos:Pos}
theorem Kh(ha:PE X a ta)(hb:PE X b tb){pins:List (Addr×Obj)}{s:Shared}{σ:St}{H:Hp}{R:V→V→Hp→Prop}(I:Inv X pins σ H s)
  (h:ta σ H fun x H1=>tb σ H1 fun y H2=>R x y H2) {Q:Value→Shared→Prop} {f:Value→Value→Sem Value}
  (hf:∀v u s2 x y H2,Inv X pins σ H2 s2→RelV x v→RelV y u→R x y H2→wpAny (model X.prog X.w) X.A (f v u) Q X.xe s2):
  wpAny (model X.prog X.w) X.A (eval a X.env) (fun v cf=>wpAny (model X.prog X.w) X.A (eval b X.env) (fun u qf=>wpAny (model X.prog X.w) X.A (f v u) Q X.xe qf) X.xe cf) X.xe s:=by
 refine cD Η fun v s1 ⟨x,H1,I1,r1,q1⟩=>?_
 refine cD (hb pins s1 σ H1 _ I1 q1) fun u s2 ⟨y,H2,I2,r2,q2⟩=>?_
 exact hf v u s2 x y H2 I2 r1 r2 q2
theorem aH{op:Operator}{r:R2}(ho:rM X (binaryOp op) r)(ha:PE X a ta)(hb:PE X b tb):PE X (.BinOp a op b pos) (PU r ta tb):=by
 intro pins s σ H Q I h;exact wpAny_BinOp (Kh ha hb I h fun v u s2 x y H2 I2 rx ry q=>ho pins s2 σ H2 x y v u Q I2 rx ry q)
theorem mP{op:UnaryOp}{r:V→Hp→VK→Prop}(ho:Ru X (unaryOp op) r)(ha:PE X a ta):PE X (.UnaryOp op a pos) (Wz r ta):=by
 intro pins s σ H Q I h;exact UnaryOp_ (cD Η fun v s1 ⟨x,H1,I1,r1,q1⟩=>ho pins s1 σ H1 x v Q I1 r1 q1)
theorem Rv{f:Value→Value→Sem Value}{C:Int→Int→Prop}{g:Int→Int→Int}
  (rule:∀(i j:Int)(t u:Tok)(s:Shared)(Q:Value→Shared→Prop)(E:Value→Shared→Prop),C i j→Q (.int (g i j) s.toks) {s with toks:=s.toks+1}→wpAny (model X.prog X.w) X.A (f (.int i t) (.int j u)) Q E s):
  rM X f (rI C fun i j=> .int (g i j)):=by
 intro pins s σ H x y v u Q I rx ry h;obtain⟨i,j,rfl,rfl,hc,q⟩:=h;obtain⟨t,rfl⟩:=rx;obtain⟨t',rfl⟩:=ry;exact rule i j t t' s _ _ hc ⟨.int (g i j),H,I.tok _,⟨_,rfl⟩,q⟩
theorem Nw{f:Value→Value→Sem Value}{g:Int→Int→Int}
  (rule:∀(i j:Int)(t u:Tok)(s:Shared)(Q:Value→Shared→Prop)(E:Value→Shared→Prop),Q (.int (g i j) s.toks) {s with toks:=s.toks+1}→wpAny (model X.prog X.w) X.A (f (.int i t) (.int j u)) Q E s):
  rM X f (GK fun i j=> .int (g i j)):=by
 intro pins s σ H x y v u Q I rx ry h;obtain⟨i,j,rfl,rfl,q⟩:=h;obtain⟨t,rfl⟩:=rx;obtain⟨t',rfl⟩:=ry;exact rule i j t t' s _ _ ⟨.int (g i j),H,I.tok _,⟨_,rfl⟩,q⟩
theorem GL{f:Value→Value→Sem Value}{g:Int→Int→Bool}
  (rule:∀(i j:Int)(t u:Tok)(s:Shared)(Q:Value→Shared→Prop)(E:Value→Shared→Prop),Q (.bool (g i j)) s→wpAny (model X.prog X.w) X.A (f (.int i t) (.int j u)) Q E s):
  rM X f (GK fun i j=> .bl (g i j)):=by
 intro pins s σ H x y v u Q I rx ry h;obtain⟨i,j,rfl,rfl,q⟩:=h;obtain⟨t,rfl⟩:=rx;obtain⟨t',rfl⟩:=ry;exact rule i j t t' s _ _ ⟨.bl (g i j),H,I,rfl,q⟩
def Ki(i j:Int):Prop:=0<j∧j<1073741824
def Kj(i j:Int):Prop:=(-(2^64)<i∧i<2^64)∨(-(2^64)<j∧j<2^64)
theorem Kj.ok{i j:Int}(h:Kj i j):IntMulOk i j:=by
 rcases h with⟨h1,h2⟩|⟨h1,h2⟩
 ·exact .of_left (intBits_le_64 h1 h2)
 ·exact .of_right (intBits_le_64 h1 h2)
theorem bC:rM X (binaryOp .Add) (GK fun i j=> .int (i+j)):=Nw fun _ _ _ _ _ _ _ q=>add_int q
theorem bI:rM X (binaryOp .Sub) (GK fun i j=> .int (i-j)):=Nw fun _ _ _ _ _ _ _ q=>sub_int q
theorem nh:rM X (binaryOp .Mult) (rI Kj fun i j=> .int (i*j)):=Rv fun _ _ _ _ _ _ _ hc q=>mul_int q hc.ok
theorem dS:rM X (binaryOp .FloorDiv) (rI Ki fun i j=> .int (i/j)):=Rv fun i j _ _ _ _ _ hc q=>by
 have h1:(0:Int)<j:=hc.1;have h2:j<1073741824:=hc.2;exact floordiv_int Zd (by rw[Int.fdiv_eq_ediv_of_nonneg i Zd];exact q) (.inl (PyProof.noPylong_small Zd))
theorem bS:rM X (binaryOp .Mod) (rI (fun _ j=>0<j) fun i j=> .int (i%j)):=Rv fun i j _ _ _ _ _ hc q=>by
 have h1:(0:Int)<j:=hc;exact mod_int' Zd (by rw[Int.fmod_eq_emod_of_nonneg i Zd];exact q)
theorem WA{f:Value→Sem Value}{g:Int→Int}
  (rule:∀(i:Int)(t:Tok)(s:Shared)(Q:Value→Shared→Prop)(E:Value→Shared→Prop),Q (.int (g i) s.toks) {s with toks:=s.toks+1}→wpAny (model X.prog X.w) X.A (f (.int i t)) Q E s):
  Ru X f (rU fun i=> .int (g i)):=by
 intro pins s σ H x v Q I rx h;obtain⟨i,rfl,q⟩:=h;obtain⟨t,rfl⟩:=rx;exact rule i t s _ _ ⟨.int (g i),H,I.tok _,⟨_,rfl⟩,q⟩
theorem jM:Ru X (unaryOp .USub) (rU fun i=> .int (-i)):=WA fun _ _ _ _ _ q=>neg_int q
end
def Nx:V→V→Bool
 | .cJ, .cJ=>true| .cJ, .int _=>true| .int _, .cJ=>true| .cJ, .bl _=>true| .bl _, .cJ=>true| .cJ, .str _=>true| .str _, .cJ=>true
 | .int _, .int _=>true| .bl _, .bl _=>true| .str _, .str _=>true| .B4 _, .B4 _=>true
 | .int _, .str _=>true| .str _, .int _=>true| .bl _, .str _=>true| .str _, .bl _=>true
 | _,_=>false
def WB:R2:=fun x y H Q=>Nx x y=true∧Q (.bl (decide (x=y))) H
def WC:R2:=fun x y H Q=>Nx x y=true∧Q (.bl (!decide (x=y))) H
theorem A4{i j:Int}:decide (V.int i=V.int j)=(i==j):=by
 rw[Bool.eq_iff_iff];simp
theorem DT{i j:Bool}:decide (V.bl i=V.bl j)=(i==j):=by
 rw[Bool.eq_iff_iff];simp
theorem A5{i j:Str}:decide (V.str i=V.str j)=(i==j):=by
 rw[Bool.eq_iff_iff];simp
theorem A6{i j:Array UInt8}:decide (V.B4 i=V.B4 j)=(i.toList==j.toList):=by
 rw[Bool.eq_iff_iff];cases i;cases j;simp
section
variable{X:Cx}{a b c:Expr}{ta tb tc:TE}{pos:Pos}
theorem bF{pins:List (Addr×Obj)}{σ:St}{H:Hp}{s:Shared}{Q:VK}{k k':Bool}(I:Inv X pins σ H s)(q:Q (.bl k) H)(e:k=k'):EP X pins σ Q (.bool k') s:=by
 subst e;exact⟨.bl k,H,I,rfl,q⟩
theorem jn:rM X (compareOp .Eq) WB:=by
 intro pins s σ H x y v u Q I rx ry h;obtain⟨hs,q⟩:=h;cases x with
 |cJ=>
  cases rx;cases y with
  |cJ=>cases ry;exact PySem.EqNone.eq_none_none (Zf I q)
  |bl j=>cases ry;exact PySem.EqNone.eq_none_bool (Zf I q)
  |int j=>obtain⟨t',rfl⟩:=ry;exact PySem.EqNone.eq_none_int (Zf I q)
  |str j=>obtain⟨t',rfl⟩:=ry;exact PySem.EqNone.eq_none_str (Zf I q)
  | _=>exact Zr (show false=true from hs)
 |bl i=>
  cases rx;cases y with
  |cJ=>cases ry;exact PySem.EqNone.eq_bool_none (Zf I q)
  |bl j=>cases ry;exact eq_bool (bF I q DT)
  |str j=>obtain⟨t',rfl⟩:=ry;exact PySem.EqMixed.eq_bool_str (Zf I q)
  | _=>exact Zr (show false=true from hs)
 |int i=>
  obtain⟨t,rfl⟩:=rx;cases y with
  |cJ=>cases ry;exact PySem.EqNone.eq_int_none (Zf I q)
  |int j=>obtain⟨t',rfl⟩:=ry;exact eq_int (bF I q A4)
  |str j=>obtain⟨t',rfl⟩:=ry;exact PySem.EqMixed.eq_int_str (Zf I q)
  | _=>exact Zr (show false=true from hs)
 |str i=>
  obtain⟨t,rfl⟩:=rx;cases y with
  |cJ=>cases ry;exact PySem.EqNone.eq_str_none (Zf I q)
  |bl j=>cases ry;exact PySem.EqMixed.eq_str_bool (Zf I q)
  |int j=>obtain⟨t',rfl⟩:=ry;exact PySem.EqMixed.eq_str_int (Zf I q)
  |str j=>obtain⟨t',rfl⟩:=ry;exact eq_str (bF I q A5)
  | _=>exact Zr (show false=true from hs)
 |B4 i=>
  obtain⟨t,rfl⟩:=rx;cases y with
  |B4 j=>obtain⟨t',rfl⟩:=ry;exact PySem.W.eq_bytes (bF I q A6)
  | _=>exact Zr (show false=true from hs)
 | _=>cases y<;>exact Zr (show false=true from hs)
theorem vt:rM X (compareOp .NotEq) WC:=by
 intro pins s σ H x y v u Q I rx ry h;obtain⟨hs,q⟩:=h;cases x with
 |cJ=>
  cases rx;cases y with
  |cJ=>cases ry;exact PySem.EqNone.ne_none_none (Zf I q)
  |bl j=>cases ry;exact PySem.EqNone.ne_none_bool (Zf I q)
  |int j=>obtain⟨t',rfl⟩:=ry;exact PySem.EqNone.ne_none_int (Zf I q)
  |str j=>obtain⟨t',rfl⟩:=ry;exact PySem.EqNone.ne_none_str (Zf I q)
  | _=>exact Zr (show false=true from hs)
 |bl i=>
  cases rx;cases y with
  |cJ=>cases ry;exact PySem.EqNone.ne_bool_none (Zf I q)
  |bl j=>cases ry;exact ne_bool (bF I q (congrArg not DT))
  |str j=>obtain⟨t',rfl⟩:=ry;exact PySem.EqMixed.ne_bool_str (Zf I q)
  | _=>exact Zr (show false=true from hs)
 |int i=>
  obtain⟨t,rfl⟩:=rx;cases y with
  |cJ=>cases ry;exact PySem.EqNone.ne_int_none (Zf I q)
  |int j=>obtain⟨t',rfl⟩:=ry;exact ne_int (bF I q (congrArg not A4))
  |str j=>obtain⟨t',rfl⟩:=ry;exact PySem.EqMixed.ne_int_str (Zf I q)
  | _=>exact Zr (show false=true from hs)
 |str i=>
  obtain⟨t,rfl⟩:=rx;cases y with
  |cJ=>cases ry;exact PySem.EqNone.ne_str_none (Zf I q)
  |bl j=>cases ry;exact PySem.EqMixed.ne_str_bool (Zf I q)
  |int j=>obtain⟨t',rfl⟩:=ry;exact PySem.EqMixed.ne_str_int (Zf I q)
  |str j=>obtain⟨t',rfl⟩:=ry;exact ne_str (bF I q (congrArg not A5))
  | _=>exact Zr (show false=true from hs)
 |B4 i=>
  obtain⟨t,rfl⟩:=rx;cases y with
  |B4 j=>obtain⟨t',rfl⟩:=ry;exact PySem.W.ne_bytes (bF I q (congrArg not A6))
  | _=>exact Zr (show false=true from hs)
 | _=>cases y<;>exact Zr (show false=true from hs)
theorem mQ:rM X (compareOp .Lt) (GK fun i j=> .bl (decide (i<j))):=GL fun _ _ _ _ _ _ _ q=>lt_int q
theorem A7:rM X (compareOp .LtE) (GK fun i j=> .bl (decide (i≤j))):=GL fun _ _ _ _ _ _ _ q=>le_int q
theorem rl:rM X (compareOp .Gt) (GK fun i j=> .bl (decide (j<i))):=GL fun _ _ _ _ _ _ _ q=>gt_int q
theorem A8:rM X (compareOp .GtE) (GK fun i j=> .bl (decide (j≤i))):=GL fun _ _ _ _ _ _ _ q=>ge_int q
theorem aV(b:Expr){op:CmpOp}(h:op≠ .In:=by decide)(h2:op≠ .NotIn:=by decide):behindInMarks op b=false:=by
 have e1:(op==CmpOp.In)=false:=by cases op<;>first|rfl|exact absurd rfl h
 have e2:(op==CmpOp.NotIn)=false:=by cases op<;>first|rfl|exact absurd rfl h2
 cases b<;>simp[behindInMarks,e1,e2]
theorem iH{op:CmpOp}{r:R2}(ho:rM X (compareOp op) r)(ha:PE X a ta)(hb:PE X b tb)(hm:behindInMarks op b=false):PE X (.Compare a [op] [b] pos) (PU r ta tb):=by
 intro pins s σ H Q I h;exact wpAny_Compare1 (Kh ha hb I h fun v u s2 x y H2 I2 rx ry q=>ho pins s2 σ H2 x y v u Q I2 rx ry q) hm
def Ny(t:TE):TT:=fun σ H Q=>t σ H fun x H'=>∃k,x= .bl k∧Q k H'
theorem aS{op:CmpOp}{r:R2}(ho:rM X (compareOp op) r)(ha:PE X a ta)(hb:PE X b tb)(hm:behindInMarks op b=false):PT X (.Compare a [op] [b] pos) (Ny (PU r ta tb)):=by
 intro pins s σ H Q I h;refine wpAny_isTrue_Compare1 (cD Η fun v s1 ⟨x,H1,I1,r1,q1⟩=>cD (hb pins s1 σ H1 _ I1 q1) fun u s2 ⟨y,H2,I2,r2,q2⟩=>
  cD (ho pins s2 σ H2 x y v u _ I2 r1 r2 q2) fun c s3 ⟨z,H3,I3,r3,k,e,q3⟩=>?_) hm
 subst e;cases r3;exact wpAny_truthy_bool ⟨H3,I3,q3⟩
theorem qg:(sizeLine:Nat)<2^63:=by rw[sizeLine_eq];decide
theorem ni:rM X (binaryOp .Add) (fun x y H Q=>∃i j,x= .str i∧y= .str j∧i.length+j.length≤sizeLine∧Q (.str (i++j)) H):=by
 intro pins s σ H x y v u Q I rx ry h;obtain⟨i,j,rfl,rfl,hz,q⟩:=h;obtain⟨t,rfl⟩:=rx;obtain⟨t',rfl⟩:=ry;exact add_str (fun t' tk=>⟨.str (i++j),H,I.tok _,⟨_,rfl⟩,q⟩) hz
theorem vals1{x:V}{us:List Value}(r:Vals [x] us):∃u,us=[u]∧RelV x u:=by
 cases r with
 |cons r1 r2=>cases r2;exact⟨_,rfl,r1⟩
theorem vals2{x y:V}{us:List Value}(r:Vals [x,y] us):∃u w',us=[u,w']∧RelV x u∧RelV y w':=by
 cases r with
 |cons r1 r2=>
  cases r2 with
  |cons r3 r4=>cases r4;exact⟨_,_,rfl,r1,r3⟩
theorem Ca(hc:X.calm=true):iD X (.builtin "max") (fun xs H Q=>∃i j,xs=[.int i, .int j]∧Q (.int (if j>i then j else i)) H):=by
 intro pins s σ H xs us Q I r h;obtain⟨i,j,rfl,q⟩:=h;obtain⟨u,w',rfl,⟨t,rfl⟩,⟨t',rfl⟩⟩:=vals2 r;refine max_two_ints (I.ok.hd hc) fun h' tk k=>⟨_,H,I.kept k,?_,q⟩
 by_cases hj:j>i
 ·rw[HB hj,HB hj];exact⟨_,rfl⟩
 ·rw[Dt hj,Dt hj];exact⟨_,rfl⟩
theorem qh(hc:X.calm=true):iD X (.builtin "min") (fun xs H Q=>∃i j,xs=[.int i, .int j]∧Q (.int (if j<i then j else i)) H):=by
 intro pins s σ H xs us Q I r h;obtain⟨i,j,rfl,q⟩:=h;obtain⟨u,w',rfl,⟨t,rfl⟩,⟨t',rfl⟩⟩:=vals2 r;refine min_two_ints (I.ok.hd hc) fun h' tk k=>⟨_,H,I.kept k,?_,q⟩
 by_cases hj:j<i
 ·rw[HB hj,HB hj];exact⟨_,rfl⟩
 ·rw[Dt hj,Dt hj];exact⟨_,rfl⟩
theorem qi:iD X (.type "int") (fun xs H Q=>(∃i,xs=[.int i]∧Q (.int i) H)∨∃k,xs=[.bl k]∧Q (.int (if k then 1 else 0)) H):=by
 intro pins s σ H xs us Q I r h;rcases h with⟨i,rfl,q⟩|⟨k,rfl,q⟩
 ·obtain⟨u,rfl,t,rfl⟩:=vals1 r;exact call_int_int ⟨.int i,H,I,⟨_,rfl⟩,q⟩
 ·obtain⟨u,rfl,r1⟩:=vals1 r;cases r1;exact call_int_bool ⟨.int (if k then 1 else 0),H,I.tok _,⟨_,rfl⟩,q⟩
end
structure zK(h:Heap)(x dx C:Addr)(mA:Str→Option Value):Prop where
 obj:h.get? x=some (PySem.W.instObj C dx)
 ns:h.Ns1 dx mA
 ne:dx≠x
theorem Cb{h:Heap}{dx:Addr}{mA:Str→Option Value}(n:h.Ns1 dx mA):∃od,h.get? dx=some od∧∀name,PySem.W.lookIn name od=some (mA name):=by
 obtain⟨o,es,ep,ho,hd,hk,_,hm⟩:=n;refine⟨o,ho,fun name=>?_⟩;have e:=hm name;unfold nsFind findBy at e;rw[←Array.find?_toList]at e;unfold PySem.W.lookIn;rw[hd];dsimp only;split
 ·rename_i y q
  rw[q]at e;exact congrArg some e
 ·rename_i q
  rw[q]at e;have a:es.toList.any (·.refKey)=false:=by
   rw[List.any_eq_false];intro y hy;obtain⟨z,t,oz⟩:=hk y (Array.mem_toList_iff.mp hy);simp[DictEntry.refKey,oz]
  have a':¬es.toList.any (·.refKey)=true:=by rw[a];exact Bool.false_ne_true
  rw[Dt a'];exact congrArg some e
theorem zK.look{h:Heap}{x dx C:Addr}{mA:Str→Option Value}(I:zK h x dx C mA):∃od,PySem.W.InstAt h x (PySem.W.instObj C dx) C (some od)∧∀name,PySem.W.lookIn name od=some (mA name):=
 let ⟨od,ho,hl⟩:=Cb I.ns
 ⟨od,⟨I.obj,rfl,rfl,ho⟩,hl⟩
section
variable{prog:Program}{w:World}{A:Around}{E:Value→Shared→Prop}{s:Shared}{K:PySem.W.Frag}{x dx C f:Addr}{mA:Str→Option Value}{name:Str}{v:Value}
theorem get_map{expr:Bool}{Q:Value→Shared→Prop}(X:K.In s.heap)(I:zK s.heap x dx C mA)(hg:PySem.W.plainGet K C name=true)(hh:PySem.W.hasDictIn K C=true)
  (ha:PySem.W.findIn K (.ref C) name=some none) (hv:mA name=some v) (Kk:PySem.W.handedIn v=true) (h:Q v {s with toks:=s.toks+1}):
  wpAny (model prog w) A (getAttr (.ref x) name expr) Q E s:=by
 obtain⟨od,J,hl⟩:=I.look;exact PySem.W.get_value X J (PySem.W.plainGet_of hg).1 (PySem.W.findObj_own hh ha rfl (by rw[hl,hv])) Kk h
theorem DV{pl:Sem Bool}{Q:Value×List Value→Shared→Prop}(X:K.In s.heap)(I:zK s.heap x dx C mA)(hg:PySem.W.plainGet K C name=true)
  (hf:PySem.W.findIn K (.ref C) name=some (some (.ref f))) (ht:PySem.W.isFn K (.ref f)=true) (hv:mA name=none) (h:Q (.ref f,[.ref x]) s):
  wpAny (model prog w) A (getMethod (.ref x) name pl) Q E s:=by
 obtain⟨od,J,hl⟩:=I.look;exact PySem.W.method_fn X J (PySem.W.plainGet_of hg).1 (PySem.W.plainGet_of hg).2 hf (beq_iff_eq.mp ht) (by show(PySem.W.lookIn name od).map (·.isSome)=some false;rw[hl,hv];rfl) h
theorem GN{ns:List Str}{Q:Unit→Shared→Prop}(X:K.In s.heap)(I:zK s.heap x dx C mA)
  (hs:PySem.W.findIn K (.ref C) "__setattr__"=some (some (.builtin "object.__setattr__"))) (hp:PySem.W.plainOver K C=true) (ht:PySem.W.takerIn K C name=some none) (hh:PySem.W.hasDictIn K C=true)
  (hw:PySem.Within mA ns) (hsz:ns.length≤sizeLine)
  (h:∀h',zK h' x dx C (fun y=>if y=name then some v else mA y)→Heap.SameBut dx s.heap h'→Q () {s with heap:=h',toks:=s.toks+2}):
  wpAny (model prog w) A (setAttr (.ref x) name v) Q E s:=by
 obtain⟨od,J,hl⟩:=I.look;refine PySem.W.set_plain X J hs (PySem.W.osa_open (s:={s with toks:=s.toks+1}) (r:=none) X J hp ht fun b=>?_);obtain⟨cd,hc,zv⟩:=PySem.W.any_some hh;have hx:s.heap.get? x=some ⟨.ref C,some dx, .plain,#[]⟩:=I.obj;refine wpAny_bind (W0 (Xz (Xz (wpAny_loadPart hx (Xz (PySem.W.Looks.here (s:={s with toks:=s.toks+1}) (PySem.W.looks_clsIn X hc) ?_))))));rw[zv];refine wpAny_pure (a:=some dx) (Xz (W0 (Xz ?_)));refine wpAny_nsSet1 (s:={s with toks:=s.toks+1}) I.ns fun h' ya Kl=>?_
 obtain⟨oD,abY,abB,WD,WE,WG⟩:=ya.count (PySem.Within.cons name v hw);refine wpAny_bind (wpAny_lookBehind WD (by rw[WE];exact pastItsLine_dict (ZN WG (by rw[List.length_cons];omega))) ?_);exact W0 (h _ ⟨(Kl.2 _ (WR I.ne)).trans I.obj,ya,I.ne⟩ Kl)
theorem DW{R:Result→Shared→Prop}{vs:List Value}{kw:List (Str×Value)}(X:K.In s.heap)(hm:PySem.W.makesIn K C=true)
  (hi:PySem.W.findIn K (.ref C) "__init__"=some (some (.ref f))) (hf:PySem.W.typeIn K (.ref f)=some (.type "function"))
  (h:codeAny (model prog w) (A.under (.builtin "type.__call__" ⟨.ref C::vs,kw⟩)) (.call (.ref f) ⟨.ref (s.heap.objs.size+1)::vs,kw⟩) (PySem.W.InitBack (s.heap.objs.size+1) R)
   {s with heap:=(s.heap.push PySem.W.emptyDict).push (PySem.W.instObj C s.heap.objs.size)}):
  codeAny (model prog w) A (.call (.ref C) ⟨vs,kw⟩) R s:=by
 obtain⟨hh,g,d,t,os⟩:=s;exact PySem.W.make_core (PySem.W.makes_of X hm) (PySem.W.looks_findIn X hi) (fun self=>PySem.W.bind_fn X self hf) (.inl rfl) h
end
def bp(f:Str)(v:V):List (Str×V)→List (Str×V)
 |[]=>[(f,v)]
 |(g,x)::r=>if g=f then(g,v)::r else(g,x)::bp f v r
theorem rm(f g:Str)(v:V):∀fs:List (Str×V),(bp f v fs).lookup g=if g=f then some v else fs.lookup g
 |[]=>by
  show List.lookup g [(f,v)]=_;by_cases h:g=f
  ·have hb:(g==f)=true:=beq_iff_eq.mpr h;simp only[List.lookup,hb,HB h]
  ·have hb:(g==f)=false:=beq_eq_false_iff_ne.mpr h;simp only[List.lookup,hb,Dt h]
 |(k,x)::r=>by
  have ih:=rm f g v r;rw[show bp f v ((k,x)::r)=(if k=f then(k,v)::r else(k,x)::bp f v r)from rfl];by_cases hk:k=f
  ·rw[HB hk];by_cases h:g=k
   ·have hb:(g==k)=true:=beq_iff_eq.mpr h;simp only[List.lookup,hb,HB (h.trans hk)]
   ·have hb:(g==k)=false:=beq_eq_false_iff_ne.mpr h;simp only[List.lookup,hb,Dt (fun e:g=f=>h (e.trans hk.symm))]
  ·rw[Dt hk];by_cases h:g=k
   ·have hb:(g==k)=true:=beq_iff_eq.mpr h;simp only[List.lookup,hb,Dt (fun e:g=f=>hk (h.symm.trans e))]
   ·have hb:(g==k)=false:=beq_eq_false_iff_ne.mpr h;simp only[List.lookup,hb];exact ih
theorem qj(f:Str)(v:V):∀fs:List (Str×V),f∈(bp f v fs).map (·.1)∧∀g,g∈fs.map (·.1)→g∈(bp f v fs).map (·.1)
 |[]=>⟨by simp[bp],fun g h=>by simp at h⟩
 |(k,x)::r=>by
  obtain⟨i1,i2⟩:=qj f v r;rw[show bp f v ((k,x)::r)=(if k=f then(k,v)::r else(k,x)::bp f v r)from rfl];by_cases hk:k=f
  ·rw[HB hk];subst hk;exact⟨IM,fun g h=>by simpa using h⟩
  ·rw[Dt hk];refine⟨?_,fun g h=>?_⟩
   ·rw[List.map_cons];exact ZL i1
   ·rw[List.map_cons]at h⊢;rcases List.mem_cons.mp h with e|e
    ·exact List.mem_cons.mpr (.inl e)
    ·exact ZL (i2 g e)
theorem aW(f:Str)(v:V):∀fs:List (Str×V),(bp f v fs).length≤fs.length+1
 |[]=>by simp[bp]
 |(k,x)::r=>by
  have ih:=aW f v r;rw[show bp f v ((k,x)::r)=(if k=f then(k,v)::r else(k,x)::bp f v r)from rfl];by_cases hk:k=f
  ·rw[HB hk,List.length_cons,List.length_cons];omega
  ·rw[Dt hk,List.length_cons,List.length_cons];omega
theorem kq.some_of{v:V}{o:Option Value}(r:kq (some v) o):∃u,o=some u∧RelV v u:=by
 cases o with
 |none=>exact(show False from r).elim
 |some u=>exact⟨u,rfl,r⟩
theorem kq.none_of{o:Option Value}(r:kq none o):o=none:=by
 cases o with
 |none=>rfl
 |some u=>exact(show False from r).elim
theorem Cc{v:V}{u:Value}(r:RelV v u):PySem.W.handedIn u=true:=by
 cases v with
 |cJ=>cases(show u=Value.none from r);rfl
 |bl b=>cases(show u=Value.bool b from r);rfl
 |int i=>obtain⟨t,e⟩:=(show ∃t,u=Value.int i t from r);cases e;rfl
 |str x=>obtain⟨t,e⟩:=(show ∃t,u=Value.str x t from r);cases e;rfl
 |B4 b=>obtain⟨t,e⟩:=(show ∃t,u=Value.bytes b t from r);cases e;rfl
 |IE b=>obtain⟨t,e⟩:=(show ∃t,u=Value.float b t from r);cases e;rfl
 |ref a=>cases(show u=Value.ref a from r);rfl
 |ty n=>cases(show u=Value.type n from r);rfl
section
variable{P:Program}{w:World}{H H':Hp}{h h':Heap}{a C dx:Addr}{fs Ws:List (Str×V)}
theorem sk(bU:lz P w H h)(e:H a=some (.ins C dx fs)):∃mA,zK h a dx C mA∧(∀f,kq (fs.lookup f) (mA f))∧PySem.Within mA (fs.map (·.1))∧fs.length≤1000∧H dx=some (.own a):=by
 obtain⟨d,z,ne,ob,mA,n,r,q⟩:=(show cL P w H h a (.ins C dx fs)from bU a _ e)
 exact⟨mA,⟨ob,n,ne⟩,r,q,z,d⟩
end
structure wg(K:PySem.W.Frag)(C:Addr):Prop where
 pg:PySem.W.plainGet K C Str.empty=true
 hd:PySem.W.hasDictIn K C=true
 po:PySem.W.plainOver K C=true
 sa:PySem.W.findIn K (.ref C) "__setattr__"=some (some (.builtin "object.__setattr__"))
theorem wg.get{K:PySem.W.Frag}{C:Addr}(c:wg K C)(f:Str):PySem.W.plainGet K C f=true:=c.pg
def bY(K:PySem.W.Frag)(C:Addr)(f:Str):Prop:=PySem.W.findIn K (.ref C) f=some none
theorem bY.Nz{K:PySem.W.Frag}{C:Addr}{f:Str}(n:bY K C f):PySem.W.takerIn K C f=some none:=by
 unfold PySem.W.takerIn;rw[show PySem.W.findIn K (.ref C) f=some none from n];rfl
structure DX(K:PySem.W.Frag)(C:Addr)(f:Str)(v:V)(u:Value):Prop where
 at_:PySem.W.findIn K (.ref C) f=some (some u)
 rel:RelV v u
 get:PySem.W.specialIn K u "__get__"=some none
 cp:PySem.W.copiedNames.contains f=false
structure Meth(K:PySem.W.Frag)(C:Addr)(m:Str)(f:Addr):Prop where
 at_:PySem.W.findIn K (.ref C) m=some (some (.ref f))
 fn:PySem.W.isFn K (.ref f)=true
 kp:PySem.W.keepIn K (.ref f)=true
section
variable{X:Cx}{pins:List (Addr×Obj)}{σ:St}{H:Hp}{s:Shared}{a C dx:Addr}{fs:List (Str×V)}{f:Str}{v:V}{A:Around}{E:Value→Shared→Prop}
theorem zL{b:Bool}{Q:Value→Shared→Prop}(I:Inv X pins σ H s)(e:H a=some (.ins C dx fs))(c:wg X.K C)(n:bY X.K C f)(l:fs.lookup f=some v)
  (h:∀u s',Inv X pins σ H s'→RelV v u→Q u s'):wpAny (model X.prog X.w) A (getAttr (.ref a) f b) Q E s:=by
 obtain⟨mA,O,r,_,_,_⟩:=sk I.bU e;obtain⟨u,hu,ru⟩:=kq.some_of (v:=v) (o:=mA f) (by rw[←l];exact r f);exact get_map I.qe O (c.get f) c.hd n hu (Cc ru) (h u _ (I.tok _) ru)
theorem nj{m:Str}{g:Addr}{pl:Sem Bool}{Q:Value×List Value→Shared→Prop}(I:Inv X pins σ H s)(e:H a=some (.ins C dx fs))(c:wg X.K C)(k:Meth X.K C m g)(l:fs.lookup m=none)
  (h:Q (.ref g,[.ref a]) s):wpAny (model X.prog X.w) A (getMethod (.ref a) m pl) Q E s:=by
 obtain⟨mA,O,r,_,_,_⟩:=sk I.bU e;have hn:mA m=none:=kq.none_of (by rw[←l];exact r m);exact DV I.qe O (c.get m) k.at_ k.fn hn h
theorem zM{y:V}{u:Value}{Q:Unit→Shared→Prop}(I:Inv X pins σ H s)(e:H a=some (.ins C dx fs))(c:wg X.K C)(n:bY X.K C f)(hl:fs.length<1000)(ry:RelV y u)
  (h:∀s',Inv X pins σ (upd H a (.ins C dx (bp f y fs))) s'→Q () s'):wpAny (model X.prog X.w) A (setAttr (.ref a) f u) Q E s:=by
 obtain⟨mA,O,r,wi,_,ho⟩:=sk I.bU e;have hz:(fs.map (·.1)).length≤sizeLine:=by rw[List.length_map,sizeLine_eq];omega
 refine GN I.qe O c.sa c.po n.Nz c.hd wi hz fun h' O' sb=>h _ ?_
 have hd:∃o,h'.get? dx=some o:=let ⟨o,_,_,e',_⟩:=O'.ns;⟨o,e'⟩
 refine I.write (x:=a) (e:=dx) (by rw[e];exact True.intro) (.inr ho) (fun b q hb z=>(sb.2 b hb).trans z) hd ?_;refine⟨by rw[aj O.ne];exact ho,?_,O.ne,O'.obj,_,O'.ns,fun g=>?_,fun g hg=>?_⟩
 ·have:=aW f y fs;omega
 ·show kq ((bp f y fs).lookup g) (if g=f then some u else mA g);rw[rm];by_cases q:g=f
  ·rw[HB q,HB q];exact ry
  ·rw[Dt q,Dt q];exact r g
 ·by_cases q:g=f
  ·rw[q];exact(qj f y fs).1
  ·refine(qj f y fs).2 g (wi g fun z=>hg ?_);show(if g=f then some u else mA g)=none;rw[Dt q];exact z
theorem Inv.made(I:Inv X pins σ H s):Inv X pins σ (upd (upd H s.heap.objs.size (.own (s.heap.objs.size+1))) (s.heap.objs.size+1) (.ins C s.heap.objs.size []))
  {s with heap:=(s.heap.push PySem.W.emptyDict).push (PySem.W.instObj C s.heap.objs.size)}:=by
 have e1:(s.heap.push PySem.W.emptyDict).get? s.heap.objs.size=some PySem.W.emptyDict:=Heap.get?_push_size s.heap rfl;have e2:((s.heap.push PySem.W.emptyDict).push (PySem.W.instObj C s.heap.objs.size)).get? (s.heap.objs.size+1)=some (PySem.W.instObj C s.heap.objs.size):=by
  have:=Heap.get?_push_size (s.heap.push PySem.W.emptyDict) (o:=PySem.W.instObj C s.heap.objs.size) rfl;rwa[Heap.size_push]at this
 have e3:(s.heap.push PySem.W.emptyDict).Ns s.heap.objs.size (fun _=>none):=⟨PySem.W.emptyDict,#[],_,e1,rfl,(fun e he=>Zy he),fun _=>rfl⟩
 have I1:=I.laid (a:=s.heap.objs.size) (o:= .own (s.heap.objs.size+1)) (h':=s.heap.push PySem.W.emptyDict) (t':=s.toks) (fun b u q=>YG q) (Nat.le_refl _) ⟨_,e1⟩;refine I1.laid (a:=s.heap.objs.size+1) (o:= .ins C s.heap.objs.size []) (t':=s.toks) (fun b u q=>YG q) (Nat.le_of_eq (Heap.size_push _ _)) ?_;have ne:s.heap.objs.size≠s.heap.objs.size+1:=ZM (Nat.lt_succ_self _);refine⟨by rw[aj ne,ae],Nat.zero_le _,ne,e2,fun _=>none,(Heap.Ns1.of_empty e3).at fun o q=>YG q,fun _=>True.intro,fun y hy=>absurd rfl hy⟩
theorem GO{prog:Program}{w:World}{env:Env}{e:Expr}{f:Str}{pos:Pos}{s:Shared}{Q:Value→Shared→Prop}(hb:attributeBase e f env (eval e env)=eval e env)
  (h:wpAny (model prog w) A (eval e env) (fun o cf=>wpAny (model prog w) A (getAttr o f true) Q E cf) E s):wpAny (model prog w) A (eval (.Attribute e f pos) env) Q E s:=
 Attribute_any_ h (by rw[arm_eval_Attribute,hb])
end
inductive IL(K:PySem.W.Frag)(f:Str)(x:V)(H1:Hp)(Q:VK):Prop
 |mk (a:Addr) (C:Addr) (dx:Addr) (fs:List (Str×V)) (v:V) (_:x= .ref a) (_:H1 a=some (.ins C dx fs)) (_:wg K C) (_:bY K C f) (_:fs.lookup f=some v) (_:Q v H1):IL K f x H1 Q
def NA(K:PySem.W.Frag)(ta:TE)(f:Str):TE:=fun σ H Q=>ta σ H fun x H1=>IL K f x H1 Q
def NB(K:PySem.W.Frag)(ta tv:TE)(f:Str):TS:=fun D σ H=>tv σ H fun y H1=>ta σ H1 fun x H2=>∃a C dx fs,x= .ref a∧H2 a=some (.ins C dx fs)∧wg K C∧bY K C f∧fs.length<1000∧
 D.nx σ (upd H2 a (.ins C dx (bp f y fs)))
section
variable{X:Cx}{o e value:Expr}{f:Str}{pos pos' Rw:Pos}{ta tv:TE}
theorem Km(he:PE X e ta)(hb:attributeBase e f X.env (eval e X.env)=eval e X.env):PE X (.Attribute e f pos) (NA X.K ta f):=by
 intro pins s σ H Q I h;refine GO hb (cD Δ fun u s1 ⟨x,H1,I1,rx,a,C,dx,fs,v,ex,ea,c,n,l,q⟩=>?_);subst ex;obtain rfl:u=Value.ref a:=rx;exact zL I1 ea c n l fun u' s2 I2 ru=>⟨v,H1,I2,ru,q⟩
theorem Kn(ha:PE X o ta)(hv:PE X value tv)(hs:swapsWith value (some (.Attribute o f pos')) pos.line X.env=pure false):PS X (.Assign [.Attribute o f pos'] value pos) (NB X.K ta tv f):=by
 intro pins s σ H D I h;refine plainObj_wpAny_Assign_Attribute (cD (hv pins s σ H _ I h) fun u s1 ⟨y,H1,I1,ry,q⟩=>cD (ha pins s1 σ H1 _ I1 q) fun ov s2 ⟨x,H2,I2,rx,a,C,dx,fs,ex,ea,c,n,l,q2⟩=>?_) hs;subst ex;obtain rfl:ov=Value.ref a:=rx;exact zM I2 ea c n l ry fun s3 I3=>⟨σ,_,I3,q2⟩
theorem abD{pl:Sem Bool}{m:Str}{apos:Pos}{args:List Expr}{pins:List (Addr×Obj)}{s:Shared}{σ:St}{H:Hp}{Q:Value→Shared→Prop}{te:TE}(he:PE X e te)(I:Inv X pins σ H s)
  (h:te σ H fun x H1=>∃a C dx fs g,x= .ref a∧H1 a=some (.ins C dx fs)∧wg X.K C∧Meth X.K C m g∧fs.lookup m=none∧
   ∀s1,Inv X pins σ H1 s1→wpAny (model X.prog X.w) X.A (callWith pos (.ref g) [.ref a] (backTo pos (starEach args X.env)) (Ο pos)) Q X.xe s1)
  (ht:eval (.Call (.Attribute e m apos) args [] pos) X.env=(do
   let ov←eval e X.env
   standAt apos.atName
   let (f,first)←holding [ov] (getMethod ov m pl)
   callWith pos f first (backTo pos (starEach args X.env)) (Ο pos))):
  wpAny (model X.prog X.w) X.A (eval (.Call (.Attribute e m apos) args [] pos) X.env) Q X.xe s:=by
 refine PySem.W.methodCall_KW (pl:=pl) (cD Δ fun u s1 ⟨x,H1,I1,rx,a,C,dx,fs,g,ex,ea,c,k,l,q⟩=>?_) ht;subst ex;obtain rfl:u=Value.ref a:=rx;exact nj I1 ea c k l (q s1 I1)
end
section
variable{X:Cx}{pins:List (Addr×Obj)}{σ:St}{H:Hp}{s:Shared}{A:Around}{E:Value→Shared→Prop}{Q:Value→Shared→Prop}{c:Value}{b:Bool}
inductive qk(K:PySem.W.Frag)(H:Hp):V→Value→Prop where
 |cJ:qk K H .cJ (.type "NoneType")
 |bl (x:Bool):qk K H (.bl x) (.type "bool")
 |int (i:Int):qk K H (.int i) (.type "int")
 |str (x:Str):qk K H (.str x) (.type "str")
 |IE (x:UInt64):qk K H (.IE x) (.type "float")
 |lst {a:Addr} {xs:List V} (e:H a=some (.lst xs)):qk K H (.ref a) (.type "list")
 |sj {a:Addr} {o:Obj} {xs:List V} (e:H a=some (.sj o (.lst xs))):qk K H (.ref a) (.type "list")
 |tup {a:Addr} {xs:List V} (e:H a=some (.tup xs)):qk K H (.ref a) (.type "tuple")
 |dK {a:Addr} {kvs:List (Key×V)} (e:H a=some (.dK kvs)):qk K H (.ref a) (.type "dict")
 |dT {a:Addr} {kvs:List (List Key×V)} (e:H a=some (.dT kvs)):qk K H (.ref a) (.type "dict")
 |ins {a C dx:Addr} {fs:List (Str×V)} (e:H a=some (.ins C dx fs)) (cl:wg K C) (ha:PySem.W.findIn K (.ref C) "__class__"=some (some (.builtin "object.__class__")))
   (hn:PySem.W.specialIn K (.builtin "object.__class__") "__get__"=some (some (.builtin "getset_descriptor.__get__"))) (UB:PySem.W.takesIn K (.builtin "object.__class__")=some true)
   (hm:PySem.W.mroIn K C (.type "object")=some true):qk K H (.ref a) (.ref C)
theorem Cd{x:V}{u t:Value}(I:Inv X pins σ H s)(rx:RelV x u)(ty:qk X.K H x t)(e:PySem.W.kitOne X.K t c=some b)(h:∀tk,Q (.bool b) {s with toks:=tk}):
  wpAny (model X.prog X.w) A (call (.builtin "isinstance") [u,c]) Q E s:=by
 cases ty with
 |cJ=>cases(show u=Value.none from rx);exact Θ PySem.W.kitx_none I.qe True.intro e h
 |bl y=>cases(show u=Value.bool y from rx);exact Θ PySem.W.kitx_bool I.qe True.intro e h
 |int i=>obtain⟨t,q⟩:=(show ∃t,u=Value.int i t from rx);cases q;exact Θ PySem.W.kitx_int I.qe True.intro e h
 |str y=>obtain⟨t,q⟩:=(show ∃t,u=Value.str y t from rx);cases q;exact Θ PySem.W.kitx_str I.qe True.intro e h
 |IE y=>obtain⟨t,q⟩:=(show ∃t,u=Value.float y t from rx);cases q;exact Θ PySem.W.kitx_float I.qe True.intro e h
 |@lst a xs ea=>
  cases(show u=Value.ref a from rx);obtain⟨_,_,n,_,h1⟩:=(show cL X.prog X.w H s.heap a (.lst xs)from I.bU a _ ea)
  exact Θ PySem.W.kitx_list I.qe ⟨_,h1,rfl⟩ e h
 |@sj a ob xs ea=>
  cases(show u=Value.ref a from rx);obtain⟨_,_,_,n,_,h1⟩:=(show cL X.prog X.w H s.heap a (.sj ob (.lst xs))from I.bU a _ ea)
  exact Θ PySem.W.kitx_list I.qe ⟨_,h1,rfl⟩ e h
 |@tup a xs ea=>
  cases(show u=Value.ref a from rx);obtain⟨_,_,_,p⟩:=(show cL X.prog X.w H s.heap a (.tup xs)from I.bU a _ ea)
  obtain⟨o,h1,h2,_⟩:=p;exact Θ PySem.W.kitx_tuple I.qe ⟨o,h1,h2⟩ e h
 |@dK a kvs ea=>
  cases(show u=Value.ref a from rx);obtain⟨_,_,vs,_,p⟩:=(show cL X.prog X.w H s.heap a (.dK kvs)from I.bU a _ ea)
  obtain⟨o,es,ep,h1,h2,_⟩:=p;exact Θ PySem.W.kitx_dict I.qe ⟨o,h1,h2.1⟩ e h
 |@dT a kvs ea=>
  cases(show u=Value.ref a from rx);obtain⟨_,_,xs,_,o,es,ep,h1,h2,_⟩:=(show cL X.prog X.w H s.heap a (.dT kvs)from I.bU a _ ea)
  exact Θ PySem.W.kitx_dict I.qe ⟨o,h1,h2.1⟩ e h
 |@ins a C dx fs ea cl ha hn UB hm=>
  cases(show u=Value.ref a from rx);obtain⟨mA,O,_⟩:=sk I.bU ea;obtain⟨od,J,_⟩:=O.look;exact Θ (PySem.W.kitx_own (cl.get _) cl.hd ha hn UB hm) I.qe J e h
end
structure eQ(cm:Bool)(k:Nat)(A:Around):Prop where
 hd:cm=true→A.handled=none
 dp:A.depth+3*k+5<recursionLimit
 un:A.units+16*k+200<cLine
theorem eQ.mono{cm:Bool}{j k:Nat}{A:Around}(r:eQ cm k A)(h:j≤k):eQ cm j A:=⟨r.hd,by have:=r.dp;omega,by have:=r.un;omega⟩
theorem eQ.deeper{cm:Bool}{k:Nat}{A:Around}(r:eQ cm (k+1) A)(env:Env):eQ cm k (A.deeper env):=
 ⟨r.hd,by have:=r.dp;show A.depth+1+3*k+5<_;omega,by have:=r.un;show A.units+3+16*k+200<_;omega⟩
theorem zN{A:Around}{C:Addr}{us:List Value}{kw:List (Str×Value)}:(A.under (.builtin "type.__call__" ⟨.ref C::us,kw⟩)).depth=A.depth+1:=by
 first|rfl|simp[Around.under,Code.weight,Code.isCreation,Code.isGuard,Code.isCaller,Code.frames,Code.isFrame,guardIds]
theorem zO{A:Around}{C:Addr}{us:List Value}{kw:List (Str×Value)}:(A.under (.builtin "type.__call__" ⟨.ref C::us,kw⟩)).units=A.units+1:=by
 first|rfl|simp[Around.under,Code.cUnits,Code.frames,Code.isFrame]
theorem eQ.make{cm:Bool}{k:Nat}{A:Around}(r:eQ cm (k+1) A)(C:Addr)(us:List Value)(kw:List (Str×Value)):eQ cm k (A.under (.builtin "type.__call__" ⟨.ref C::us,kw⟩)):=
 ⟨r.hd,by have:=r.dp;rw[zN];omega,by have:=r.un;rw[zO];omega⟩
theorem eQ.depth{cm:Bool}{k:Nat}{A:Around}(r:eQ cm k A):A.depth<recursionLimit:=by have:=r.dp;omega
theorem eQ.units{cm:Bool}{k:Nat}{A:Around}(r:eQ cm k A):A.units+64<cLine:=by have:=r.un;omega
def DY:TA:=fun _ H Q=>Q [] H
def IP(ta:TE)(tr:TA):TA:=fun σ H Q=>ta σ H fun x H1=>tr σ H1 fun xs H2=>Q (x::xs) H2
section
variable{X:Cx}{e:Expr}{es:List Expr}{te:TE}{t:TA}{pos:Pos}
theorem af:PA X [] DY:=fun _ _ _ _ H Q I h=>Calls.spliced_nil ⟨[],H,I, .nil,h⟩
theorem GP(ha:PE X e te)(hr:PA X es t)(hs:starEach (e::es) X.env=(false,eval e X.env)::starEach es X.env:=by rfl):PA X (e::es) (IP te t):=by
 intro pos pins s σ H Q I h;rw[hs];show wpAny _ _ (spliced ((false,eval e X.env)::backTo pos (starEach es X.env))) _ _ s;refine Calls.spliced_cons (cD Η fun u s1 ⟨x,H1,I1,r1,q1⟩=>?_);exact cD (hr pos pins s1 σ H1 _ I1 q1) fun us s2 ⟨xs,H2,I2,r2,q2⟩=>⟨x::xs,H2,I2, .cons r1 r2,q2⟩
def Rx(t:TA):TE:=fun σ H Q=>t σ H fun xs H1=>xs.length≤sizeLine∧∀p,H1 p=none→Q (.ref p) (upd H1 p (.tup xs))
def Ry(t:TA):TE:=fun σ H Q=>t σ H fun xs H1=>xs.length≤sizeLine∧∀p,H1 p=none→Q (.ref p) (upd H1 p (.lst xs))
theorem dU{x1}(h:PA X es t):PE X (.Tuple es x1 pos) (Rx t):=by
 intro pins s σ H Q I hq;refine wpAny_Tuple_spliced (cD (h pos pins s σ H _ I hq) fun us s1 ⟨xs,H1,I1,r,z,q⟩=>⟨by rw[←r.length];exact z,?_⟩);have hf:H1 s1.heap.objs.size=none:=I1.bU.fresh YH;refine⟨.ref s1.heap.objs.size,upd H1 s1.heap.objs.size (.tup xs),I1.laid (t':=s1.toks) (fun b u e=>YG e) (Nat.le_refl _) ?_,rfl,q _ hf⟩;exact⟨z,us,r,⟨_,Heap.get?_push_size _ rfl,rfl,_,rfl⟩⟩
theorem bL(h:PA X es t):PE X (.List es pos) (Ry t):=by
 intro pins s σ H Q I hq;refine wpAny_List_spliced (cD (h pos pins s σ H _ I hq) fun us s1 ⟨xs,H1,I1,r,z,q⟩=>⟨by rw[←r.length];exact z,?_⟩);have hf:H1 s1.heap.objs.size=none:=I1.bU.fresh YH;refine⟨.ref s1.heap.objs.size,upd H1 s1.heap.objs.size (.lst xs),I1.laid (t':=s1.toks) (fun b u e=>YG e) (Nat.le_refl _) ?_,rfl,q _ hf⟩;exact⟨z,us,0,r,Heap.get?_push_size _ rfl⟩
end
abbrev Sp:=List V→Hp→VK→XK→Prop
abbrev DZ:=List Env→Hp→Shared→XK→Value→Shared→Prop
structure zP(P:Program)(w:World)(K:PySem.W.Frag)(mg:Str→Option Value)(base:Heap)(A:Around)(outer:List Env)(s:Shared)(H:Hp):Prop where
 frames:A.frames=some outer
 mod:Mod K mg base
 bs:∀b o,base.get? b=some o→s.heap.get? b=some o∧H b=none
 J5:base.objs.size≤s.heap.objs.size
 uE:s.heap.FunFrames base outer
 Nf:∀b∈oa outer,H b=none
 bU:lz P w H s.heap
 bare:AllBare s.gens
def CE(outer:List Env)(P:Program)(w:World)(H:Hp)(s:Shared)(Q:VK)(u:Value)(s':Shared):Prop:=
 ∃v H',s'.os=s.os∧AllBare s'.gens∧Un (oa outer) [] H H' s.heap s'.heap∧lz P w H' s'.heap∧RelV v u∧Q v H'
def CR(CX:DZ)(outer:List Env)(P:Program)(w:World)(H:Hp)(s:Shared)(Q:VK)(E:XK)(r:Result)(s':Shared):Prop:=
 match r with
 | .ok (.ret u)=>CE outer P w H s Q u s'
 | .ok _=>False
 | .error e=>CX outer H s E e s'
structure aZ(P:Program)(w:World)(K:PySem.W.Frag)(mg:Str→Option Value)(base:Heap)(CX:DZ)(cm:Bool)(k:Nat)(f:Addr)(fd:FuncData)(ps:List Str)(sp:Sp):Prop where
 len:∀vs H Q E,sp vs H Q E→vs.length=ps.length
 run:∀(A:Around)(outer:List Env)(s:Shared)(H:Hp)(args:Args)(us:List Value)(vs:List V)(Q:VK)(E:XK),eQ cm k A→zP P w K mg base A outer s H→BindsTo s fd args (ps.zip us)→Vals vs us→sp vs H Q E→
  codeAny (model P w) A (.call (.ref f) args) (CR CX outer P w H s Q E) s
theorem zP.make{P:Program}{w:World}{K:PySem.W.Frag}{mg:Str→Option Value}{base:Heap}{A:Around}{outer:List Env}{s:Shared}{H:Hp}(e:zP P w K mg base A outer s H)(C:Addr)(us:List Value)(kw:List (Str×Value)):
  zP P w K mg base (A.under (.builtin "type.__call__" ⟨.ref C::us,kw⟩)) outer s H:=⟨by first|exact e.frames|(simpa[Around.under,Code.envs,Code.isFrame,pushEnvs]using e.frames),e.mod,e.bs,e.J5,e.uE,e.Nf,e.bU,e.bare⟩
section
variable{X:Cx}{pins:List (Addr×Obj)}{σ:St}{H:Hp}{s s':Shared}
theorem Inv.Ko(I:Inv X pins σ H s):zP X.prog X.w X.K X.mg X.base X.A X.stack s H:=
 ⟨I.ok.frames,I.ok.mod,I.bs,ZN I.ok.J5 I.sz,I.stack,I.wb,I.bU,I.bare⟩
theorem Inv.after{Q:VK}{u:Value}(I:Inv X pins σ H s)(h:CE X.stack X.prog X.w H s Q u s'):EP X pins σ Q u s':=by
 obtain⟨v,H',os,bare,un,bU,r,q⟩:=h;obtain⟨hh,g,d,t,WH⟩:=s';obtain rfl:WH=s.os:=os;exact⟨v,H',I.call (h':=hh) (g':=g) (d':=d) (t':=t) (ch:=[]) un bU bare (fun b z=>Zy z),r,q⟩
end
def IQ(sp:Sp)(l':List V)(E:St→XK)(t:TA):TE:=fun σ H Q=>t σ H fun vs H1=>sp (vs++l') H1 Q (E σ)
def A9(C:Addr)(m:Str)(sp:Sp)(l':List V)(E:St→XK)(ta:TE)(t:TA):TE:=fun σ H Q=>ta σ H fun x H1=>∃a dx fs,x= .ref a∧H1 a=some (.ins C dx fs)∧fs.lookup m=none∧
 t σ H1 fun vs H2=>sp (x::(vs++l')) H2 Q (E σ)
def A_(C:Addr)(sp:Sp)(l':List V)(E:St→XK)(t:TA):TE:=fun σ H Q=>t σ H fun vs H1=>∀x dx,H1 x=none→H1 dx=none→dx≠x→
 sp (.ref x::(vs++l')) (upd (upd H1 dx (.own x)) x (.ins C dx [])) (fun v H2=>v= .cJ∧Q (.ref x) H2) (E σ)
def Binds(K:PySem.W.Frag)(fd:FuncData)(ps:List Str)(ds:List Value):Prop:=
 ∀(s:Shared)(us:List Value),K.In s.heap→(us++ds).length=ps.length→BindsTo s fd ⟨us,[]⟩ (ps.zip (us++ds))
theorem Binds.all{K:PySem.W.Frag}{fd:FuncData}{ps:List Str}(h:∀us:List Value,us.length=ps.length→bindArgs fd ⟨us,[]⟩=pure (ps.zip us)):Binds K fd ps []:=fun s us _ hl=>by
 rw[List.append_nil]at hl⊢;exact .of_eq (h us hl)
def Passes(CX:DZ)(X:Cx)(E:St→XK):Prop:=∀(pins:List (Addr×Obj))(σ:St)(H:Hp)(s:Shared)(e:Value)(s':Shared),Inv X pins σ H s→CX X.stack H s (E σ) e s'→X.xe e s'
section
variable{X:Cx}{CX:DZ}{cm:Bool}{k:Nat}{f C:Addr}{fd:FuncData}{ps:List Str}{sp:Sp}{l':List V}{ds:List Value}{E:St→XK}{x m:Str}{p pos apos:Pos}{e o:Expr}{es:List Expr}{ta:TE}{t:TA}
theorem zQ{pins:List (Addr×Obj)}{σ:St}{H:Hp}{s:Shared}{Q:VK}{us:List Value}{vs:List V}(F:aZ X.prog X.w X.K X.mg X.base CX cm k f fd ps sp)(hr:eQ cm k X.A)(hb:Binds X.K fd ps ds)(hd:Vals l' ds)(hx:Passes CX X E)
  (I:Inv X pins σ H s) (r:Vals vs us) (h:sp (vs++l') H Q (E σ)):wpAny (model X.prog X.w) X.A (call (.ref f) us) (EP X pins σ Q) X.xe s:=by
 have r2:Vals (vs++l') (us++ds):=r.append hd;have hl:(us++ds).length=ps.length:=by rw[←r2.length];exact F.len _ _ _ _ h
 refine wpAny_call (codeAny_mono (F.run X.A X.stack s H ⟨us,[]⟩ (us++ds) (vs++l') Q (E σ) hr I.Ko (hb s us I.qe hl) r2 h) fun r s' hq=>?_);cases r with
 |error e=>exact hx pins σ H s e s' I hq
 |ok fl=>
  cases fl with
  |ret u=>exact I.after hq
  |next=>exact False.elim hq
  |brk=>exact False.elim hq
  |cont=>exact False.elim hq
theorem GQ(F:aZ X.prog X.w X.K X.mg X.base CX cm k f fd ps sp)(hr:eQ cm k X.A)(hg:Gl X x)(hm:X.mg x=some (.ref f))(hk:PySem.W.keepIn X.K (.ref f)=true)(hb:Binds X.K fd ps ds)(hd:Vals l' ds)(hx:Passes CX X E)
  (ha:PA X (e::es) t) (wj:(x==("__debug__":Str))=false:=by decide) (he:starEach (e::es) X.env=(false,eval e X.env)::starEach es X.env:=by rfl) (ql:(kU pos).any (·.1)=false:=by rfl):
  PE X (.Call (.Name x p) (e::es) [] pos) (IQ sp l' E t):=by
 intro pins s σ H Q I h;refine wpAny_Call_Name_kw (om I hg hm ?_ wj);refine PySem.W.callWith_K (h₀:=X.base) I.ok.mod.Ml hk (cD (ha pos pins s σ H _ I h) fun us s1 ⟨vs,H1,I1,r,q⟩=>⟨I1.qe,?_⟩) he ql;exact zQ F hr hb hd hx I1 r q
theorem GR{pl:Sem Bool}(he:PE X o ta)(c:wg X.K C)(hm:Meth X.K C m f)(F:aZ X.prog X.w X.K X.mg X.base CX cm k f fd ps sp)(hr:eQ cm k X.A)(hb:Binds X.K fd ps ds)(hd:Vals l' ds)(hx:Passes CX X E)(ha:PA X (e::es) t)
  (vp:starEach (e::es) X.env=(false,eval e X.env)::starEach es X.env:=by rfl) (ql:(kU pos).any (·.1)=false:=by rfl)
  (ht:eval (.Call (.Attribute o m apos) (e::es) [] pos) X.env=(do
   let ov←eval o X.env
   standAt apos.atName
   let (f,first)←holding [ov] (getMethod ov m pl)
   callWith pos f first (backTo pos (starEach (e::es) X.env)) (Ο pos)):=by rfl):
  PE X (.Call (.Attribute o m apos) (e::es) [] pos) (A9 C m sp l' E ta t):=by
 intro pins s σ H Q I h;refine PySem.W.methodCall_KW (pl:=pl) (cD Δ fun u s1 ⟨x,H1,I1,rx,a,dx,fs,ex,ea,l,q⟩=>?_) ht;subst ex;obtain rfl:u=Value.ref a:=rx;refine nj I1 ea c hm l ?_;refine PySem.W.callWith_K (first:=[.ref a]) (h₀:=X.base) I.ok.mod.Ml hm.kp (cD (ha pos pins s1 σ H1 _ I1 q) fun us s2 ⟨vs,H2,I2,r,q2⟩=>⟨I2.qe,?_⟩) vp ql;exact zQ (us:= .ref a::us) (vs:= .ref a::vs) F hr hb hd hx I2 (.cons rfl r) q2
theorem D0{pl:Sem Bool}(he:PE X o ta)(c:wg X.K C)(hm:Meth X.K C m f)(F:aZ X.prog X.w X.K X.mg X.base CX cm k f fd ps sp)(hr:eQ cm k X.A)(hb:Binds X.K fd ps ds)(hd:Vals l' ds)(hx:Passes CX X E)
  (ht:eval (.Call (.Attribute o m apos) [] [] pos) X.env=(do
   let ov←eval o X.env
   standAt apos.atName
   let (f,first)←holding [ov] (getMethod ov m pl)
   callWith pos f first (backTo pos (starEach [] X.env)) (Ο pos)):=by rfl):
  PE X (.Call (.Attribute o m apos) [] [] pos) (A9 C m sp l' E ta DY):=by
 intro pins s σ H Q I h;refine PySem.W.methodCall_KW (pl:=pl) (cD Δ fun u s1 ⟨x,H1,I1,rx,a,dx,fs,ex,ea,l,q⟩=>?_) ht;subst ex;obtain rfl:u=Value.ref a:=rx;refine nj I1 ea c hm l ?_;exact PySem.W.callWith_K0 (first:=[.ref a]) I1.qe hm.kp (zQ (us:=[.ref a]) (vs:=[.ref a]) F hr hb hd hx I1 (.cons rfl .nil) q)
structure Mk(K:PySem.W.Frag)(C f:Addr):Prop where
 makes:PySem.W.makesIn K C=true
 init:PySem.W.findIn K (.ref C) "__init__"=some (some (.ref f))
 fn:PySem.W.isFn K (.ref f)=true
 kp:PySem.W.keepIn K (.ref C)=true
theorem yo{pins:List (Addr×Obj)}{σ:St}{H:Hp}{s:Shared}{Q:VK}{us:List Value}{vs:List V}(M:Mk X.K C f)(F:aZ X.prog X.w X.K X.mg X.base CX cm k f fd ps sp)(hr:eQ cm (k+1) X.A)(hb:Binds X.K fd ps ds)(hd:Vals l' ds)
  (hx:Passes CX X E) (I:Inv X pins σ H s) (r:Vals vs us)
  (h:∀x dx,H x=none→H dx=none→dx≠x→sp (.ref x::(vs++l')) (upd (upd H dx (.own x)) x (.ins C dx [])) (fun v H2=>v= .cJ∧Q (.ref x) H2) (E σ)):
  wpAny (model X.prog X.w) X.A (call (.ref C) us) (EP X pins σ Q) X.xe s:=by
 have hq:=h (s.heap.objs.size+1) s.heap.objs.size (I.bU.fresh (Nat.le_succ _)) (I.bU.fresh YH) (ZM (Nat.lt_succ_self _));have I2:=Inv.made (C:=C) I;have r2:Vals (V.ref (s.heap.objs.size+1)::(vs++l')) (Value.ref (s.heap.objs.size+1)::(us++ds)):= .cons rfl (r.append hd);have hl:(Value.ref (s.heap.objs.size+1)::us++ds).length=ps.length:=by
  have e:=r2.length;rw[F.len _ _ _ _ hq]at e;exact e.symm
 refine wpAny_call (DW (f:=f) I.qe M.makes M.init (beq_iff_eq.mp M.fn) (codeAny_mono (F.run _ X.stack _ _ ⟨Value.ref (s.heap.objs.size+1)::us,[]⟩ (Value.ref (s.heap.objs.size+1)::(us++ds)) _ _ (E σ) (hr.make C us [])
  (I2.Ko.make C us []) (hb _ (Value.ref (s.heap.objs.size+1)::us) I2.qe hl) r2 hq) fun r s' NC=>?_))
 cases r with
 |error e=>exact hx pins σ _ _ e s' I2 NC
 |ok fl=>
  cases fl with
  |ret u=>
   obtain⟨v,H',I3,rv,ev,q3⟩:=I2.after NC;subst ev;exact⟨rv,⟨V.ref (s.heap.objs.size+1),H',I3,rfl,q3⟩⟩
  |next=>exact False.elim NC
  |brk=>exact False.elim NC
  |cont=>exact False.elim NC
theorem GU(M:Mk X.K C f)(F:aZ X.prog X.w X.K X.mg X.base CX cm k f fd ps sp)(hr:eQ cm (k+1) X.A)(hg:Gl X x)(hm:X.mg x=some (.ref C))(hb:Binds X.K fd ps ds)(hd:Vals l' ds)(hx:Passes CX X E)
  (ha:PA X (e::es) t) (wj:(x==("__debug__":Str))=false:=by decide) (he:starEach (e::es) X.env=(false,eval e X.env)::starEach es X.env:=by rfl) (ql:(kU pos).any (·.1)=false:=by rfl):
  PE X (.Call (.Name x p) (e::es) [] pos) (A_ C sp l' E t):=by
 intro pins s σ H Q I h;refine wpAny_Call_Name_kw (om I hg hm ?_ wj);refine PySem.W.callWith_K (h₀:=X.base) I.ok.mod.Ml M.kp (cD (ha pos pins s σ H _ I h) fun us s1 ⟨vs,H1,I1,r,q⟩=>⟨I1.qe,?_⟩) he ql;exact yo M F hr hb hd hx I1 r q
theorem D1(M:Mk X.K C f)(F:aZ X.prog X.w X.K X.mg X.base CX cm k f fd ps sp)(hr:eQ cm (k+1) X.A)(hg:Gl X x)(hm:X.mg x=some (.ref C))(hb:Binds X.K fd ps ds)(hd:Vals l' ds)(hx:Passes CX X E)
  (wj:(x==("__debug__":Str))=false:=by decide):PE X (.Call (.Name x p) [] [] pos) (A_ C sp l' E DY):=by
 intro pins s σ H Q I h;refine wpAny_Call_Name_kw (om I hg hm ?_ wj);exact PySem.W.callWith_K0 I.qe M.kp (yo (us:=[]) M F hr hb hd hx I .nil h)
end
section
variable{X:Cx}{CX:DZ}{cm:Bool}{k:Nat}{f C:Addr}{fd:FuncData}{ps ks:List Str}{sp:Sp}{E:St→XK}{x m:Str}{p pos apos aaq:Pos}{e o:Expr}{es:List Expr}{abX:List Keyword}{te ta:TE}{t tk:TA}{nm:Option Str}
variable{g:List Value→List Value→List Value}{gV:List V→List V→List V}
end
structure aL(N P:List Str)(sc:Scope):Prop where
 kind:sc.kind= .function
 co:sc.isCoroutine=false
 gen:sc.isGenerator=false
 nd:N.Nodup
 pre:N.take P.length=P
 par:∀x∈P,sc.names.lookup x=some .local∨sc.names.lookup x=some .cell
 Kq:∀y∈sc.names,y.2≠ .free
theorem vw{kindOf:Str→Option NameKind}{x:Str}:∀{binds:List (Str×Value)}{m:Str→Option Value},(∀v,(x,v)∉binds)→bindL kindOf binds m x=m x
 |[],_,_=>rfl
 |(n,v)::r,m,h=>by
  unfold bindL;rw[vw fun w hw=>h w (ZL hw)];split
  ·have:x≠n:=by rintro rfl;exact h v List.mem_cons_self
   simp[this]
  ·rfl
theorem vx{kindOf:Str→Option NameKind}{x:Str}:∀{binds:List (Str×Value)}{m:Str→Option Value},(∀v,(x,v)∉binds)→bindC kindOf binds m x=m x
 |[],_,_=>rfl
 |(n,v)::r,m,h=>by
  unfold bindC;rw[vx fun w hw=>h w (ZL hw)];split
  ·rfl
  ·have:x≠n:=by rintro rfl;exact h v List.mem_cons_self
   simp[this]
theorem vy{kindOf:Str→Option NameKind}{x:Str}{v:Value}:∀{P:List Str}{vs:List Value}{i:Nat}{m:Str→Option Value},P.Nodup→P[i]?=some x→vs[i]?=some v→kindOf x=some .local→
  bindL kindOf (P.zip vs) m x=some v
 |[],_,_,_,_,h,_,_=>by simp at h
 | _::_,[],_,_,_,_,h,_=>by simp at h
 |p::P,w::vs,0,m,nd,h1,h2,hk=>by
  simp at h1 h2;subst h1;subst h2;show bindL kindOf ((p,w)::P.zip vs) m p=_;unfold bindL;rw[vw fun v hv=>(List.nodup_cons.mp nd).1 (List.of_mem_zip hv).1,HB hk];simp
 |p::P,w::vs,i+1,m,nd,h1,h2,hk=>by
  show bindL kindOf ((p,w)::P.zip vs) m x=_;unfold bindL;exact vy (i:=i) (List.nodup_cons.mp nd).2 (by simpa using h1) (by simpa using h2) hk
theorem vz{kindOf:Str→Option NameKind}{x:Str}{v:Value}:∀{P:List Str}{vs:List Value}{i:Nat}{m:Str→Option Value},P.Nodup→P[i]?=some x→vs[i]?=some v→kindOf x≠some .local→
  bindC kindOf (P.zip vs) m x=some v
 |[],_,_,_,_,h,_,_=>by simp at h
 | _::_,[],_,_,_,_,h,_=>by simp at h
 |p::P,w::vs,0,m,nd,h1,h2,hk=>by
  simp at h1 h2;subst h1;subst h2;show bindC kindOf ((p,w)::P.zip vs) m p=_;unfold bindC;rw[vx fun v hv=>(List.nodup_cons.mp nd).1 (List.of_mem_zip hv).1,Dt hk];simp
 |p::P,w::vs,i+1,m,nd,h1,h2,hk=>by
  show bindC kindOf ((p,w)::P.zip vs) m x=_;unfold bindC;exact vz (i:=i) (List.nodup_cons.mp nd).2 (by simpa using h1) (by simpa using h2) hk
def start(N:List Str)(vs:List V):St:=vs.map some++List.replicate (N.length-vs.length) none
def zR(CX:DZ)(cm:Bool)(P:Program)(w:World)(K:PySem.W.Frag)(mg:Str→Option Value)(base:Heap)(N:List Str)(qual:Str)(scope:Scope)(f:Addr)(cd:Value)(A:Around)(outer:List Env)(s:Shared)(H:Hp)(E:XK):Cx where
 prog:=P
 w:=w
 K:=K
 mg:=mg
 base:=base
 A:=A.deeper (Zz qual scope f cd)
 N:=N
 dA:=s
 eU:=H
 env:=Zz qual scope f cd
 outer:=outer
 stack:=envOfC qual scope s.heap.objs.size f cd::outer
 ex:=[]
 calm:=cm
 fn:=fun _=>true
 pn:=[]
 xe:=fun e s'=>wpAny (model P w) (A.deeper (Zz qual scope f cd)) (leaving (Zz qual scope f cd) e) (fun _ wk=>CX outer H s E e wk) (fun e' wk=>CX outer H s E e' wk) s'
theorem yp{sc:Scope}{n:Nat}{x:Str}(h:sc.names.lookup x=some .cell):∃c,(cellsFrom n sc.names []).lookup x=some c:=by
 have q:=PySem.W.cellsFrom_some sc.names n [] (.inl h);exact Option.isSome_iff_exists.mp q
theorem Ce{CX:DZ}{cm:Bool}{P:Program}{w:World}{K:PySem.W.Frag}{mg:Str→Option Value}{base:Heap}{N ps:List Str}{qual:Str}{scope:Scope}{f:Addr}{cd:Value}{A:Around}{outer:List Env}{s s1:Shared}{H:Hp}{E:XK}{us:List Value}{vs:List V}
  (S:aL N ps scope) (hd:cm=true→A.handled=none) (e0:zP P w K mg base A outer s H) (hl:vs.length=ps.length) (r:Vals vs us)
  (x:InCallC s s.heap.objs.size (bindL (Zz qual scope f cd).kindOf (ps.zip us) fun _=>none) (cellsFrom (s.heap.objs.size+1) scope.names []) (bindC (Zz qual scope f cd).kindOf (ps.zip us) fun _=>none) s1):
  Inv (zR CX cm P w K mg base N qual scope f cd A outer s H E) [] (start N vs) H s1:=by
 have ql:ps.length≤N.length:=by have:=congrArg List.length S.pre;rw[List.length_take]at this;omega
 obtain⟨h1,tk,rfl,hk⟩:=x.done;have ND:∀b:Addr,b∉(zR CX cm P w K mg base N qual scope f cd A outer s H E).ex:=fun b z=>Zy (show b∈([]:List Addr)from z)
 refine⟨⟨e0.mod,S.kind,rfl,rfl,Nat.le_refl _,fun y z c h1 h2=>?_,fun y hy=>?_,fun y c _ h=>?_,fun z=>hd z,Around.frames_deeper e0.frames, .inr ⟨rfl,rfl⟩,fun b z=>V' z (ND b),e0.bs,e0.J5,fun b _ _=>ND b,fun b z=>V' z (ND b),e0.uE,e0.Nf⟩,
  rfl,e0.bare,Un.kept hk,⟨_,x.toInCall.ns,fun i y v h1 h2 h3=>?_⟩,fun y c h=>⟨_,x.cell y c h⟩,e0.bU.fresh YH,fun y c h=>?_,fun p hp=>Zy (show p∈([]:List (Addr×Obj))from hp),e0.bU.kept hk,?_⟩
 ·exact name_of_addr x.apart (PySem.mem_of_lookup h1) (PySem.mem_of_lookup h2)
 ·have hy:scope.names.lookup y=some .cell∨scope.names.lookup y=some .free:=hy;rcases hy with hy|hy
  ·exact yp hy
  ·exact absurd rfl (S.Kq _ (PySem.mem_of_lookup hy))
 ·exact Nat.le_of_lt (x.above y c (PySem.mem_of_lookup h))
 ·have hi:i<vs.length:=by
   unfold start at h2;by_cases hi:i<vs.length
   ·exact hi
   ·rw[ZF (by simpa using hi)]at h2;rw[List.getElem?_replicate]at h2;split at h2<;>cases h2
  have ha:vs[i]?=some v:=by
   unfold start at h2;rw[ZA (by simpa using hi),List.getElem?_map]at h2;cases e:vs[i]? with
   |none=>rw[e]at h2;cases h2
   |some a=>rw[e]at h2;cases h2;rfl
  obtain⟨u,hu,rv⟩:=r.get ha;have hp:ps[i]?=some y:=by
   rw[←S.pre,List.getElem?_take_of_lt Zd];exact h1
  have UC:ps.Nodup:=by rw[←S.pre];exact S.nd.sublist (List.take_sublist _ _)
  refine⟨u,rv,?_⟩;rcases S.par y (WI hp)with k|k
  ·exact .inl ⟨k,vy UC hp hu k⟩
  ·obtain⟨c,e⟩:=yp (n:=s.heap.objs.size+1) k;refine .inr ⟨.inl k,c,e,?_⟩;have q:=x.cell y c e;rw[vz UC hp hu (by show scope.names.lookup y≠_;rw[k];decide)]at q;exact q
 ·exact e0.bU.fresh (Nat.le_of_lt (x.above y c (PySem.mem_of_lookup h)))
 ·unfold start;show _=N.length;rw[List.length_append,List.length_map,List.length_replicate];omega
theorem IS{CX:DZ}{cm:Bool}{P:Program}{w:World}{K:PySem.W.Frag}{mg:Str→Option Value}{base:Heap}{k:Nat}{f:Addr}{name qual:Str}{params:Arguments}{body:List Stmt}{scope:Scope}{dV kV doc pm bV ct oc:Value}{an od:Option Addr}
  {Ba:Array (Option Value)} {N ps:List Str} {sp:Sp} (lk:K.lookup f=some ⟨oc,od, .func (PySem.W.fnOf name qual params body scope dV kV doc pm an bV ct),Ba⟩) (B8:PySem.W.codeIn K bV qual=true) (S:aL N ps scope)
  (len:∀vs H Q E,sp vs H Q E→vs.length=ps.length)
  (yq:∀(A:Around)(outer:List Env)(s:Shared)(H:Hp)(vs:List V)(Q:VK)(E:XK),eQ cm k (A.deeper (Zz qual scope f bV))→sp vs H Q E→
   ∃t,B7 (zR CX cm P w K mg base N qual scope f bV A outer s H E) body t∧t {nx:=fun _ H'=>Q .cJ H',rt:=Q} (start N vs) H):
  aZ P w K mg base CX cm (k+1) f (PySem.W.fnOf name qual params body scope dV kV doc pm an bV ct) ps sp:=by
 refine⟨len,fun A outer s H args us vs Q E hr e0 hb r Gm=>?_⟩;have hl:=len _ _ _ _ Gm;have KX:K.In s.heap:=e0.mod.Ml.keeps fun b o e=>(e0.bs b o e).1
 have lim:s.heap.NoLimit:=e0.mod.nolimit.keeps fun b o e=>(e0.bs b o e).1
 have NG:∀y∈ps.zip us,scope.names.lookup y.1=some .local∨(scope.names.lookup y.1=some .cell∧((cellsFrom (s.heap.objs.size+1) scope.names []).lookup y.1).isSome=true):=fun⟨n,v⟩ hy=>by
  rcases S.par n (List.of_mem_zip hy).1 with q|q
  ·exact .inl q
  ·exact .inr ⟨q,PySem.W.cellsFrom_some _ _ _ (.inl q)⟩
 refine codeAny_call_function hr.depth (KX _ _ lk) rfl S.co S.gen rfl (PySem.W.codeRec_of KX B8) (hb _ _ _ _ ?_);refine wpAny_newFunctionEnv_cells S.kind NG fun env he s1 x=>?_
 subst he;refine⟨lim.keeps x.toInCall.keep,codeAny_func ?_⟩;obtain⟨t,ht,hq⟩:=yq A outer s H vs Q E (hr.deeper _) Gm;have I:Inv (zR CX cm P w K mg base N qual scope f bV A outer s H E) [] (start N vs) H s1:=Ce S hr.hd e0 hl r x;refine wpAny_mono (ht [] s1 (start N vs) H _ I hq) (fun fl s' hs=>?_) fun e s' hs=>hs
 have fin:∀{bx:St}{H':Hp}{v:V}{u:Value},Inv (zR CX cm P w K mg base N qual scope f bV A outer s H E) [] bx H' s'→RelV v u→Q v H'→CE outer P w H s Q u s':=
  fun{bx H' v u} J rv q=>⟨v,H',J.os,J.bare,J.base,J.bU,rv,q⟩
 cases fl with
 |ret u=>
  obtain⟨v,bx,H',J,rv,q⟩:=hs;exact fin J rv q
 |next=>
  obtain⟨bx,H',J,q⟩:=hs;exact fin (v:=V.cJ) (u:=Value.none) J rfl q
 |brk=>
  obtain⟨_,_,_,q⟩:=hs;exact False.elim q
 |cont=>
  obtain⟨_,_,_,q⟩:=hs;exact False.elim q
section
variable{X:Cx}{x:Str}{p pos:Pos}{e:Expr}{es:List Expr}{t:TA}{id T:String}{r:List V→Hp→VK→Prop}
def UD(r:List V→Hp→VK→Prop)(t:TA):TE:=fun σ H Q=>t σ H fun vs H1=>r vs H1 Q
theorem aM(hc:iD X (.builtin id) r)(hg:Gl X x)(hm:X.mg x=none)(hv:bootBuiltins x=some (.builtin id))(ha:PA X (e::es) t)(hn:x≠"__name__":=by decide)(wj:(x==("__debug__":Str))=false:=by decide)
  (he:starEach (e::es) X.env=(false,eval e X.env)::starEach es X.env:=by rfl) (ql:(kU pos).any (·.1)=false:=by rfl):PE X (.Call (.Name x p) (e::es) [] pos) (UD r t):=by
 intro pins s σ H Q I h;refine wpAny_Call_Name_kw (lA I hg hm hv ?_ hn wj);exact PyProof.Rows.callWith_builtin1 (cD (ha pos pins s σ H _ I h) fun us s1 ⟨vs,H1,I1,r1,q1⟩=>hc pins s1 σ H1 vs us Q I1 r1 q1) he ql
theorem gL(hc:iD X (.type T) r)(hg:Gl X x)(hm:X.mg x=none)(hv:bootBuiltins x=some (.type T))(ha:PA X (e::es) t)(hn:x≠"__name__":=by decide)(wj:(x==("__debug__":Str))=false:=by decide)
  (he:starEach (e::es) X.env=(false,eval e X.env)::starEach es X.env:=by rfl) (ql:(kU pos).any (·.1)=false:=by rfl):PE X (.Call (.Name x p) (e::es) [] pos) (UD r t):=by
 intro pins s σ H Q I h;refine wpAny_Call_Name_kw (lA I hg hm hv ?_ hn wj);exact PyProof.Rows.callWith_type1 (cD (ha pos pins s σ H _ I h) fun us s1 ⟨vs,H1,I1,r1,q1⟩=>hc pins s1 σ H1 vs us Q I1 r1 q1) he ql
end
section
variable{κ:Type}[DecidableEq κ]
def bu(kvs:List (κ×V))(k:κ):Option V:=(kvs.find? fun kv=>decide (kv.1=k)).map (·.2)
def putK(kvs:List (κ×V))(k:κ)(v:V):List (κ×V):=
 if (kvs.any fun kv=>decide (kv.1=k))=true then kvs.map (fun kv=>if kv.1=k then(kv.1,v)else kv)else kvs++[(k,v)]
def i6(kvs:List (κ×V))(k:κ):List (κ×V):=kvs.filter fun kv=>decide (kv.1≠k)
theorem sT{k:κ}:bu ([]:List (κ×V)) k=none:=rfl
theorem cF{p:κ×V}{r:List (κ×V)}{k:κ}(e:p.1=k):bu (p::r) k=some p.2:=by simp[bu,List.find?_cons,e]
theorem cw{p:κ×V}{r:List (κ×V)}{k:κ}(e:¬p.1=k):bu (p::r) k=bu r k:=by simp[bu,List.find?_cons,e]
theorem h_(k:κ):∀kvs:List (κ×V),(kvs.any fun kv=>decide (kv.1=k))=(bu kvs k).isSome
 |[]=>rfl
 |p::r=>by
  rw[List.any_cons];by_cases e:p.1=k
  ·simp only[cF e,Zn e,Bool.true_or,Option.isSome_some]
  ·rw[cw e,Zs e,Bool.false_or];exact h_ k r
theorem yr(k j:κ)(y:V):∀kvs:List (κ×V),bu (kvs.map fun kv=>if kv.1=k then(kv.1,y)else kv) j=(bu kvs j).map fun x=>if j=k then y else x
 |[]=>rfl
 |p::r=>by
  have ih:=yr k j y r;rw[List.map_cons];by_cases h:p.1=k
  ·rw[HB h];by_cases e:p.1=j
   ·rw[cF (p:=(p.1,y)) e,cF e,Option.map_some,HB (e.symm.trans h)]
   ·rw[cw (p:=(p.1,y)) e,cw e,ih]
  ·rw[Dt h];by_cases e:p.1=j
   ·rw[cF (p:=p) e,cF e,Option.map_some,Dt (fun z=>h (e.trans z))]
   ·rw[cw (p:=p) e,cw e,ih]
theorem vA(k j:κ)(y:V):∀kvs:List (κ×V),bu kvs k=none→bu (kvs++[(k,y)]) j=if j=k then some y else bu kvs j
 |[],_=>by
  by_cases e:k=j
  ·rw[HB e.symm];exact cF (p:=(k,y)) e
  ·rw[Dt (fun z=>e z.symm)];exact cw (p:=(k,y)) e
 |p::r,hn=>by
  rw[List.cons_append];have hk:¬p.1=k:=fun z=>by rw[cF z]at hn;cases hn
  rw[cw hk]at hn;have ih:=vA k j y r hn;by_cases e:p.1=j
  ·rw[cF e,cF e,Dt (fun z=>hk (e.trans z))]
  ·rw[cw e,cw e,ih]
theorem i7(kvs:List (κ×V))(k j:κ)(y:V):bu (putK kvs k y) j=if j=k then some y else bu kvs j:=by
 unfold putK;by_cases a:(kvs.any fun kv=>decide (kv.1=k))=true
 ·rw[HB a,yr];rw[h_]at a;by_cases e:j=k
  ·obtain⟨x,hx⟩:=Option.isSome_iff_exists.mp a;rw[HB e,e,hx,Option.map_some,if_pos rfl]
  ·rw[Dt e];cases bu kvs j with
   |none=>rfl
   |some x=>rw[Option.map_some,Dt e]
 ·rw[Dt a];refine vA k j y kvs ?_;rw[h_]at a;cases q:bu kvs k with
  |none=>rfl
  |some x=>rw[q]at a;exact(a rfl).elim
theorem eV(kvs:List (κ×V))(k:κ)(v:V):(putK kvs k v).length≤kvs.length+1:=by
 unfold putK;split
 ·rw[List.length_map];omega
 ·rw[List.length_append,List.length_cons,List.length_nil];omega
theorem sU{kvs:List (κ×V)}{k:κ}(v:V)(h:bu kvs k=none):putK kvs k v=kvs++[(k,v)]:=by
 unfold putK;rw[h_,h];exact if_neg ZO
theorem kq.jY{o:Option V}{u:Option Value}(r:kq o u):o.isSome=u.isSome:=by
 cases o with
 |none=>cases u with
  |none=>rfl
  |some _=>exact(show False from r).elim
 |some _=>cases u with
  |none=>exact(show False from r).elim
  |some _=>rfl
theorem kq.getD{o:Option V}{u:Option Value}{d:V}{d':Value}(r:kq o u)(rd:RelV d d'):RelV (o.getD d) (u.getD d'):=by
 cases o with
 |none=>cases u with
  |none=>exact rd
  |some _=>exact(show False from r).elim
 |some _=>cases u with
  |none=>exact(show False from r).elim
  |some _=>exact r
theorem KV.val{kvs:List (κ×V)}{vs:List (κ×Value)}(r:KV kvs vs)(k:κ):kq (bu kvs k) (valueAt vs k):=by
 unfold KV at r
 induction r with
 |nil=>exact True.intro
 |@cons p q ps qs h t ih=>
  obtain⟨h1,h2⟩:=h;by_cases e:p.1=k
  ·have e':q.1=k:=h1.symm.trans e;have b:valueAt (q::qs) k=some q.2:=by simp[valueAt,List.find?_cons,e']
   rw[cF e,b];exact h2
  ·have e':¬q.1=k:=fun z=>e (h1.trans z)
   have b:valueAt (q::qs) k=valueAt qs k:=by simp[valueAt,List.find?_cons,e']
   rw[cw e,b];exact ih
theorem KV.any{kvs:List (κ×V)}{vs:List (κ×Value)}(r:KV kvs vs)(k:κ):(kvs.any fun kv=>decide (kv.1=k))=vs.any fun kv=>decide (kv.1=k):=by
 unfold KV at r
 induction r with
 |nil=>rfl
 |cons h t ih=>rw[List.any_cons,List.any_cons,ih,h.1]
theorem KV.Kr{kvs:List (κ×V)}{vs:List (κ×Value)}(r:KV kvs vs)(k:κ){y:V}{u:Value}(ry:RelV y u):
  KV (kvs.map fun kv=>if kv.1=k then(kv.1,y)else kv) (vs.map fun kv=>if kv.1=k then(kv.1,u)else kv):=by
 unfold KV at r⊢
 induction r with
 |nil=>exact .nil
 |@cons p q ps qs h t ih=>
  rw[List.map_cons,List.map_cons];refine .cons ?_ ih;obtain⟨h1,h2⟩:=h;by_cases e:p.1=k
  ·rw[HB e,HB (h1.symm.trans e)];exact⟨h1,ry⟩
  ·rw[Dt e,Dt (fun z=>e (h1.trans z))];exact⟨h1,h2⟩
theorem KV.put{kvs:List (κ×V)}{vs:List (κ×Value)}(r:KV kvs vs)(k:κ){y:V}{u:Value}(ry:RelV y u):KV (putK kvs k y) (stored vs k u):=by
 unfold putK stored;rw[r.any k];by_cases e:(vs.any fun kv=>decide (kv.1=k))=true
 ·rw[HB e,HB e];exact r.Kr k ry
 ·rw[Dt e,Dt e];exact Paired.snoc r ⟨rfl,ry⟩
theorem KV.length{kvs:List (κ×V)}{vs:List (κ×Value)}(r:KV kvs vs):kvs.length=vs.length:=Paired.length r
theorem yt(kvs:List (κ×V))(k:κ):(i6 kvs k).length≤kvs.length:=List.length_filter_le _ _
end
theorem vB{P:Program}{w:World}{k:Key}{u:Value}(r:RelV (kV k) u):(cX P w).is k u=true:=by
 cases k with
 |inl i=>obtain⟨t,e⟩:=(show ∃t,u=Value.int i t from r);subst e;exact yh P w i t
 |inr x=>obtain⟨t,e⟩:=(show ∃t,u=Value.str x t from r);subst e;exact yi P w x t
theorem vC{P:Program}{w:World}:∀{ks:List Key}{us:List Value},Vals (ks.map kV) us→ItemsAre (cX P w) ks us
 |[],_,r=>by rw[List.map_nil]at r;cases r;exact .nil
 |k::ks,_,r=>by
  rw[List.map_cons]at r;cases r with
  |cons h t=>exact .cons (vB h) (vC t)
abbrev KT(H:Hp):List (List Key×V)→List (List Key×Addr×Value)→Prop:=Paired fun p q=>p.1=q.1∧H q.2.1=some (.tup (p.1.map kV))∧RelV p.2 q.2.2
theorem KT.val{H:Hp}{kvs:List (List Key×V)}{xs:List (List Key×Addr×Value)}(r:KT H kvs xs)(k:List Key):kq (bu kvs k) ((atKey xs k).map (·.2)):=by
 induction r with
 |nil=>exact True.intro
 |@cons p q ps qs h t ih=>
  obtain⟨h1,_,h2⟩:=h;by_cases e:p.1=k
  ·have e':q.1=k:=h1.symm.trans e;have b:atKey (q::qs) k=some q.2:=by simp[atKey,List.find?_cons,e']
   rw[cF e,b];exact h2
  ·have e':¬q.1=k:=fun z=>e (h1.trans z)
   have b:atKey (q::qs) k=atKey qs k:=by simp[atKey,List.find?_cons,e']
   rw[cw e,b];exact ih
theorem KT.Kr{H:Hp}{kvs:List (List Key×V)}{xs:List (List Key×Addr×Value)}(r:KT H kvs xs)(k:List Key){y:V}{u:Value}(ry:RelV y u):
  KT H (kvs.map fun kv=>if kv.1=k then(kv.1,y)else kv) (xs.map (putAt k u)):=by
 induction r with
 |nil=>exact .nil
 |@cons p q ps qs h t ih=>
  rw[List.map_cons,List.map_cons];refine .cons ?_ ih;obtain⟨h1,h2,h3⟩:=h;unfold putAt;by_cases e:p.1=k
  ·rw[HB e,HB (h1.symm.trans e)];exact⟨h1,h2,ry⟩
  ·rw[Dt e,Dt (fun z=>e (h1.trans z))];exact⟨h1,h2,h3⟩
theorem KT.put{H:Hp}{kvs:List (List Key×V)}{xs:List (List Key×Addr×Value)}(r:KT H kvs xs)(k:List Key){b:Addr}{y:V}{u:Value}(hb:H b=some (.tup (k.map kV)))(ry:RelV y u):
  KT H (putK kvs k y) (storedH xs k b u):=by
 have e:(kvs.any fun kv=>decide (kv.1=k))=(atKey xs k).isSome:=by
  rw[h_,(r.val k).jY,Option.isSome_map]
 unfold putK storedH;rw[e];by_cases q:(atKey xs k).isSome=true
 ·rw[HB q,HB q];exact r.Kr k ry
 ·rw[Dt q,Dt q];exact Paired.snoc r ⟨rfl,hb,ry⟩
theorem KT.keeps{H H':Hp}{kvs:List (List Key×V)}{xs:List (List Key×Addr×Value)}(r:KT H kvs xs)(ht:∀b ys,H b=some (.tup ys)→H' b=some (.tup ys)):KT H' kvs xs:=
 Paired.J3 r fun _ _ z=>⟨z.1,ht _ _ z.2.1,z.2.2⟩
section
variable{P:Program}{w:World}{H:Hp}{h:Heap}{a:Addr}
theorem IU{u:HO}(ok:lz P w H h)(e:Rd H a u):cL P w H h a u:=e.ok ok
theorem sV{kvs:List (Key×V)}(ok:lz P w H h)(e:Rd H a (.dK kvs)):kvs.length≤sizeLine∧(a==sysModules)=false∧∃vs,KV kvs vs∧h.DictOf (cX P w) a vs:=
 show cL P w H h a (.dK kvs)from IU ok e
theorem NH{kvs:List (Key×V)}(ok:lz P w H h)(e:H a=some (.dK kvs)):kvs.length≤sizeLine∧(a==sysModules)=false∧∃vs,KV kvs vs∧h.DictOf (cX P w) a vs:=sV ok (.inl e)
theorem nk{ks:List Key}(ok:lz P w H h)(e:H a=some (.tup (ks.map kV))):(tupleKind (cX P w)).is h ks a:=by
 obtain⟨_,its,r,o,h1,h2,n,h3⟩:=(show cL P w H h a (.tup (ks.map kV))from ok a _ e)
 exact⟨o,its.toArray,n,h1,h2,h3,by simpa using vC r⟩
theorem sW{kvs:List (List Key×V)}(ok:lz P w H h)(e:Rd H a (.dT kvs)):kvs.length≤sizeLine∧(a==sysModules)=false∧
  ∃xs,KT H kvs xs∧h.DictOfH (tupleKind (cX P w)) a xs:=by
 obtain⟨z,y,xs,r,o,es,ep,h1,h2,h3,h4,h5⟩:=(show cL P w H h a (.dT kvs)from IU ok e)
 refine⟨z,y,xs,r,o,es,ep,h1,h2,h3,h4,fun x hx=>?_,h5⟩;have all:∀{l:List (List Key×V)}{m:List (List Key×Addr×Value)},KT H l m→∀x∈m,(tupleKind (cX P w)).is h x.1 x.2.1:=by
  intro l m q
  induction q with
  |nil=>intro x hx;exact nomatch hx
  |@cons p q ps qs hq t ih=>
   intro x hx;rcases List.mem_cons.mp hx with e|hx
   ·subst e;exact nk ok (by rw[←hq.1];exact hq.2.1)
   ·exact ih x hx
 exact all r x hx
theorem IV{kvs:List (List Key×V)}(ok:lz P w H h)(e:H a=some (.dT kvs)):kvs.length≤sizeLine∧(a==sysModules)=false∧
  ∃xs,KT H kvs xs∧h.DictOfH (tupleKind (cX P w)) a xs:=sW ok (.inl e)
end
def jZ(H:Hp)(a:Addr)(y:V)(r:Option V):Prop:=
 (∃kvs k,Rd H a (.dK kvs)∧y=kV k∧r=bu kvs k)∨∃kvs k b,Rd H a (.dT kvs)∧y= .ref b∧H b=some (.tup (k.map kV))∧r=bu kvs k
def GV(H:Hp)(a:Addr)(y v:V)(H':Hp):Prop:=
 (∃kvs k,H a=some (.dK kvs)∧y=kV k∧kvs.length<sizeLine∧H'=upd H a (.dK (putK kvs k v)))∨
 ∃kvs k b,H a=some (.dT kvs)∧y= .ref b∧H b=some (.tup (k.map kV))∧kvs.length<sizeLine∧H'=upd H a (.dT (putK kvs k v))
theorem jZ.t{H:Hp}{a b:Addr}{kvs:List (List Key×V)}{k:List Key}(e:H a=some (.dT kvs))(eb:H b=some (.tup (k.map kV))):jZ H a (.ref b) (bu kvs k):= .inr ⟨kvs,k,b, .inl e,rfl,eb,rfl⟩
theorem GV.t{H:Hp}{a b:Addr}{kvs:List (List Key×V)}{k:List Key}{v:V}(e:H a=some (.dT kvs))(eb:H b=some (.tup (k.map kV)))(hl:kvs.length<sizeLine):
  GV H a (.ref b) v (upd H a (.dT (putK kvs k v))):= .inr ⟨kvs,k,b,e,rfl,eb,hl,rfl⟩
section
variable{X:Cx}{pins:List (Addr×Obj)}{σ:St}{H:Hp}{s:Shared}{a:Addr}{y v:V}{u r:Value}{o:Option V}{A:Around}{E:Value→Shared→Prop}
theorem Inv.big(I:Inv X pins σ H s):sysModules<s.heap.objs.size:=by
 have h:mainGlobals<s.heap.objs.size:=(I.mod.glob.keeps I.bk).lt;exact Nat.lt_trans ZO h
theorem Cf{Q:Value→Shared→Prop}(hu:A.units+1<cLine)(I:Inv X pins σ H s)(g:jZ H a y (some v))(ry:RelV y u)(h:∀w' s',Inv X pins σ H s'→RelV v w'→Q w' s'):
  wpAny (model X.prog X.w) A (getItem (.ref a) u) Q E s:=by
 rcases g with⟨kvs,k,e,ey,l⟩|⟨kvs,k,b,e,ey,eb,l⟩
 ·subst ey;obtain⟨z,hd,vs,rel,dd⟩:=sV I.bU e;obtain⟨w',hw,iY⟩:=kq.some_of (v:=v) (o:=valueAt vs k) (by rw[l];exact rel.val k);exact wpAny_getItem_of (vB ry) dd.mapOf hw (h w' _ (I.tok _) iY)
 ·subst ey;cases(show u=Value.ref b from ry);obtain⟨z,hd,xs,rel,dd⟩:=sW I.bU e;obtain⟨w',hw,iY⟩:=kq.some_of (v:=v) (o:=(atKey xs k).map (·.2)) (by rw[l];exact rel.val k);obtain⟨p,hp,Cg⟩:=Option.map_eq_some_iff.mp hw;refine wpAny_getItem_heap (tupleKind_room_in1 hu) (nk I.bU eb) dd hp ?_;rw[Cg];exact h w' _ (I.tok _) iY
theorem Rz{Q:Value→Shared→Prop}(hu:A.units+1<cLine)(I:Inv X pins σ H s)(g:jZ H a y o)(ry:RelV y u)(h:∀s',Inv X pins σ H s'→Q (.bool o.isSome) s'):
  wpAny (model X.prog X.w) A (compareOp .In u (.ref a)) Q E s:=by
 rcases g with⟨kvs,k,e,ey,l⟩|⟨kvs,k,b,e,ey,eb,l⟩
 ·subst ey;obtain⟨z,hd,vs,rel,dd⟩:=sV I.bU e;refine wpAny_in_of (vB ry) hd dd.mapOf ?_;rw[←(rel.val k).jY,←l];exact h _ (I.tok _)
 ·subst ey;cases(show u=Value.ref b from ry);obtain⟨z,hd,xs,rel,dd⟩:=sW I.bU e;refine wpAny_in_heap (tupleKind_room_in1 hu) (nk I.bU eb) hd dd ?_;have q:=(rel.val k).jY;rw[Option.isSome_map]at q;rw[←q,←l];exact h _ (I.tok _)
theorem GW{Q:Value→Shared→Prop}(hu:A.units+1<cLine)(I:Inv X pins σ H s)(g:jZ H a y o)(ry:RelV y u)(h:∀s',Inv X pins σ H s'→Q (.bool (!o.isSome)) s'):
  wpAny (model X.prog X.w) A (compareOp .NotIn u (.ref a)) Q E s:=by
 rcases g with⟨kvs,k,e,ey,l⟩|⟨kvs,k,b,e,ey,eb,l⟩
 ·subst ey;obtain⟨z,hd,vs,rel,dd⟩:=sV I.bU e;refine wpAny_notIn_of (vB ry) hd dd.mapOf ?_;rw[←(rel.val k).jY,←l];exact h _ (I.tok _)
 ·subst ey;cases(show u=Value.ref b from ry);obtain⟨z,hd,xs,rel,dd⟩:=sW I.bU e;refine wpAny_notIn_heap (tupleKind_room_in1 hu) (nk I.bU eb) hd dd ?_;have q:=(rel.val k).jY;rw[Option.isSome_map]at q;rw[←q,←l];exact h _ (I.tok _)
theorem wm{h':Heap}{t':Nat}{ob:HO}(I:Inv X pins σ H s)(mu:Nb (H a))(hs:Heap.SameBut a s.heap h')(he:∃q,h'.get? a=some q)(new:cL X.prog X.w (upd H a ob) h' a ob):
  Inv X pins σ (upd H a ob) {s with heap:=h',toks:=t'}:=
 I.write (x:=a) (e:=a) mu (.inl rfl) (fun b q hb z=>(hs.2 b hb).trans z) he new
theorem Kt{P:Program}{w:World}{H':Hp}{h':Heap}{kvs:List (Key×V)}{vs:List (Key×Value)}(z:kvs.length≤sizeLine)(hd:(a==sysModules)=false)(rel:KV kvs vs)(dd:h'.DictOf (cX P w) a vs):
  cL P w H' h' a (.dK kvs):=⟨z,hd,vs,rel,dd⟩
theorem Ci{H':Hp}{Q:Unit→Shared→Prop}(hu:A.units+1<cLine)(I:Inv X pins σ H s)(g:GV H a y v H')(ry:RelV y u)(rv:RelV v r)(h:∀s',Inv X pins σ H' s'→Q () s'):
  wpAny (model X.prog X.w) A (setItem (.ref a) u r) Q E s:=by
 rcases g with⟨kvs,k,e,ey,l,eH⟩|⟨kvs,k,b,e,ey,eb,l,eH⟩
 ·subst ey eH;obtain⟨z,hd,vs,rel,dd⟩:=NH I.bU e;have hz:vs.length≤sizeLine:=by rw[←rel.length];exact z
  have hl:(putK kvs k v).length≤sizeLine:=by have:=eV kvs k v;omega
  refine wpAny_setItem_pairs (hsz:=hz) (vB ry) dd fun h' IW hs=>h _ ?_
  have he:∃q,h'.get? a=some q:=let ⟨q,_,_,hq,_⟩:=IW;⟨q,hq⟩
  exact wm I (by rw[e];exact True.intro) hs he (Kt hl hd (rel.put k rv) IW)
 ·subst ey eH;cases(show u=Value.ref b from ry);obtain⟨z,hd,xs,rel,dd⟩:=IV I.bU e;have hz:xs.length≤sizeLine:=by rw[←Paired.length rel];exact z
  have hl:(putK kvs k v).length≤sizeLine:=by have:=eV kvs k v;omega
  refine wpAny_setItem_heap (hsz:=hz) (tupleKind_room_in1 hu) (nk I.bU eb) dd fun h' IW hs=>h _ ?_
  obtain⟨q,es,ep,hq,h2,h3,h4,_,h5⟩:=IW;refine wm I (by rw[e];exact True.intro) hs ⟨q,hq⟩ ⟨hl,hd,_,(rel.put k eb rv).keeps fun c ys ec=>?_,q,es,ep,hq,h2,h3,h4,h5⟩;rw[aj (i5 ec e (fun z=>nomatch z))];exact ec
end
section
variable{X:Cx}{pins:List (Addr×Obj)}{σ:St}{H:Hp}{s:Shared}{a:Addr}{kvs:List (Key×V)}{k:Key}{u:Value}{A:Around}{E:Value→Shared→Prop}
end
def NI(i:Expr):Prop:=∀ov iv,subscripted i false ov iv=operate [ov,iv] (getItem ov iv)
theorem GX{prog:Program}{w:World}{A:Around}{E:Value→Shared→Prop}{s:Shared}{env:Env}{value slice:Expr}{pos:Pos}{T id:String}{Q:Value→Shared→Prop}
  (hl:typeLookup (.type T) "__getitem__"=pure (some (.builtin id))) (hs:NI slice)
  (h:wpAny (model prog w) A (eval value env) (fun o cf=>wpAny (model prog w) A (eval slice env) (fun i qf=>qf.TypeIs o T∧wpAny (model prog w) A (getItem o i) Q E qf) E cf) E s):
  wpAny (model prog w) A (eval (.Subscript value slice pos) env) Q E s:=by
 refine Subscript_ (wpAny_mono h (fun o cf Cj=>wpAny_mono Cj (fun i qf D5=>?_) fun _ _ x=>x) fun _ _ x=>x);obtain⟨hT,D5⟩:=D5;unfold subscriptTail;refine wpAny_bind ?_;rw[getitemInPython_of_ne hT.not_modules];refine wpAny_bind (wpAny_specialOf hT hl ?_);have fin:wpAny (model prog w) A (subscripted slice false o i) (fun r Ck=>wpAny (model prog w) A (letTemporaryGo value o r>>=fun _=>pure r) Q E Ck) E qf:=by
  rw[hs o i];exact wpAny_operating (wpAny_mono D5 (fun r Ck GY=>Xz (wpAny_letTemporaryGo (W0 GY))) fun _ _ x=>x)
 first
  |exact W0 (Xz fin)
  |exact Xz (W0 (Xz fin))
  |exact Xz fin
theorem yu{X:Cx}{pins:List (Addr×Obj)}{σ:St}{H:Hp}{s:Shared}{a:Addr}{y:V}{o:Option V}(I:Inv X pins σ H s)(g:jZ H a y o):s.TypeIs (.ref a) "dict":=by
 rcases g with⟨kvs,k,e,_,_⟩|⟨kvs,k,b,e,_,_,_⟩
 ·obtain⟨_,_,vs,_,dd⟩:=sV I.bU e;exact dd.typeIs
 ·obtain⟨_,_,xs,_,dd⟩:=sW I.bU e;exact dd.typeIs
def NJ(td ty:TE):TE:=fun σ H Q=>td σ H fun x H1=>ty σ H1 fun y H2=>∃a v,x= .ref a∧jZ H2 a y (some v)∧Q v H2
def RA(ty td:TE):TE:=fun σ H Q=>ty σ H fun y H1=>td σ H1 fun x H2=>∃a o,x= .ref a∧jZ H2 a y o∧Q (.bl o.isSome) H2
def GZ(ty td:TE):TE:=fun σ H Q=>ty σ H fun y H1=>td σ H1 fun x H2=>∃a o,x= .ref a∧jZ H2 a y o∧Q (.bl (!o.isSome)) H2
def NK(td ty tv:TE):TS:=fun D σ H=>tv σ H fun v H1=>td σ H1 fun x H2=>ty σ H2 fun y H3=>∃a H4,x= .ref a∧GV H3 a y v H4∧D.nx σ H4
section
variable{X:Cx}{o i e value:Expr}{pos pos' Rw:Pos}{td ty tv:TE}
theorem iI(hu:X.A.units+1<cLine)(ho:PE X o td)(hi:PE X i ty)(hs:NI i):PE X (.Subscript o i pos) (NJ td ty):=by
 intro pins s σ H Q I h;refine GX PySem.F.slot_dict_getitem.lookup hs (cD (ho pins s σ H _ I h) fun u s1 ⟨x,H1,I1,rx,q1⟩=>cD (hi pins s1 σ H1 _ I1 q1) fun iv s2 ⟨y,H2,I2,ry,a,v,ex,g,q2⟩=>?_);subst ex;obtain rfl:u=Value.ref a:=rx;exact⟨yu I2 g,Cf hu I2 g ry fun w' s3 I3 iY=>⟨v,H2,I3,iY,q2⟩⟩
theorem qm(hu:X.A.units+1<cLine)(hi:PE X i ty)(ho:PE X o td):PC X .In i o (RA ty td):=by
 intro pins s σ H Q I h;refine cD (hi pins s σ H _ I h) fun iv s1 ⟨y,H1,I1,ry,q1⟩=>cD (ho pins s1 σ H1 _ I1 q1) fun u s2 ⟨x,H2,I2,rx,a,ov,ex,g,q2⟩=>?_
 subst ex;obtain rfl:u=Value.ref a:=rx;exact Rz hu I2 g ry fun s3 I3=>⟨.bl ov.isSome,H2,I3,rfl,q2⟩
theorem vD(hu:X.A.units+1<cLine)(hi:PE X i ty)(ho:PE X o td):PC X .NotIn i o (GZ ty td):=by
 intro pins s σ H Q I h;refine cD (hi pins s σ H _ I h) fun iv s1 ⟨y,H1,I1,ry,q1⟩=>cD (ho pins s1 σ H1 _ I1 q1) fun u s2 ⟨x,H2,I2,rx,a,ov,ex,g,q2⟩=>?_
 subst ex;obtain rfl:u=Value.ref a:=rx;exact GW hu I2 g ry fun s3 I3=>⟨.bl (!ov.isSome),H2,I3,rfl,q2⟩
theorem ku(hu:X.A.units+1<cLine)(ho:PE X o td)(hi:PE X i ty)(hv:PE X value tv)(hs:swapsWith value (some (.Subscript o i pos')) pos.line X.env=pure false):
  PS X (.Assign [.Subscript o i pos'] value pos) (NK td ty tv):=by
 intro pins s σ H D I h;refine wpAny_Assign_Subscript (cD (hv pins s σ H _ I h) fun r s1 ⟨v,H1,I1,rv,q1⟩=>cD (ho pins s1 σ H1 _ I1 q1) fun u s2 ⟨x,H2,I2,rx,q2⟩=>cD (hi pins s2 σ H2 _ I2 q2) fun iv s3 ⟨y,H3,I3,ry,a,H4,ex,g,q3⟩=>?_) hs;subst ex;obtain rfl:u=Value.ref a:=rx;exact Ci hu I3 g ry rv fun s4 I4=>⟨σ,H4,I4,q3⟩
end
theorem D6{P:Program}{w:World}{H:Hp}(h:Heap)(hb:sysModules<h.objs.size):cL P w H (h.push {cls:= .type "dict",data:= .dict #[]}) h.objs.size (.dT []):=
 ⟨Nat.zero_le _,beq_eq_false_iff_ne.mpr (WR (ZM hb)),[], .nil,_,#[],0,Heap.get?_push_size _ rfl,⟨rfl,rfl,rfl⟩,rfl,rfl,List.nodup_nil⟩
def Ku:TE:=fun _ H Q=>∀p,H p=none→Q (.ref p) (upd H p (.dT []))
section
variable{X:Cx}{pos:Pos}
theorem j1:PE X (.Dict [] [] pos) Ku:=fun pins s σ H Q I h=>
 wpAny_Dict_empty ⟨.ref s.heap.objs.size,_,I.laid (a:=s.heap.objs.size) (o:= .dT []) (t':=s.toks) (fun _ _ q=>YG q) (Nat.le_refl _) (D6 s.heap I.big),rfl,h _ (I.bU.fresh YH)⟩
end
structure M1(X:Cx)(o:Expr)(m:Str)(apos:Pos)(e:Expr)(eD:Pos):Prop where
 base:attributeBase o m X.env (eval o X.env)=eval o X.env
 uB:((backTo eD (starEach [e] X.env)).all (fun x=>!x.1)&&(Ο eD).all (fun x=>x.1.isSome)
  &&decide (([e]:List Expr).length+([]:List Keyword).length+(if ([]:List Keyword).isEmpty then 0 else 1)<30))=true
 line:(apos.endLine==eD.line)=true
 trees:backTo eD (starEach [e] X.env)=[(false,eval e X.env)]
def RB(H:Hp)(a:Addr):Prop:=(∃kvs,Rd H a (.dK kvs))∨∃kvs,Rd H a (.dT kvs)
theorem D7{X:Cx}{pins:List (Addr×Obj)}{σ:St}{H:Hp}{s:Shared}{a:Addr}(I:Inv X pins σ H s)(d:RB H a):
  s.TypeIs (.ref a) "dict"∧(∀b,Value.ref a= .ref b→∃ob,s.heap.get? b=some ob∧ob.dict=none)∧(a==sysModules)=false:=by
 rcases d with⟨kvs,e⟩|⟨kvs,e⟩
 ·obtain⟨_,hd,vs,_,dd⟩:=sV I.bU e;refine⟨dd.typeIs,fun b q=>?_,hd⟩;cases q;obtain⟨ob,_,_,h1,h2,_⟩:=dd;exact⟨ob,h1,h2.2.1⟩
 ·obtain⟨_,hd,xs,_,dd⟩:=sW I.bU e;refine⟨dd.typeIs,fun b q=>?_,hd⟩;cases q;obtain⟨ob,_,_,h1,h2,_⟩:=dd;exact⟨ob,h1,h2.2.1⟩
section
variable{X:Cx}{pins:List (Addr×Obj)}{σ:St}{H:Hp}{s:Shared}{a:Addr}{y d:V}{u r:Value}{o:Option V}{A:Around}{E:Value→Shared→Prop}
theorem Kv{Q:Value→Shared→Prop}(hu:A.units+1<cLine)(I:Inv X pins σ H s)(g:jZ H a y o)(ry:RelV y u)(h:∀w' s',Inv X pins σ H s'→RelV (o.getD .cJ) w'→Q w' s'):
  wpAny (model X.prog X.w) A (call (.builtin "dict.get") [.ref a,u]) Q E s:=by
 rcases g with⟨kvs,k,e,ey,l⟩|⟨kvs,k,b,e,ey,eb,l⟩
 ·subst ey;obtain⟨z,hd,vs,rel,dd⟩:=sV I.bU e;refine call_meetsIn PySem.F.slot_dict_get dd.typeIs PySem.F.entry_dict_get (PySem.F.args_dict_get_2 _ _) (meets_dict_get (cX X.prog X.w) a (vB ry) hd) ⟨_,dd.mapOf,h _ _ (I.tok _) ?_⟩;rw[l];exact(rel.val k).getD rfl
 ·subst ey;cases(show u=Value.ref b from ry);obtain⟨z,hd,xs,rel,dd⟩:=sW I.bU e;refine call_meetsIn PySem.F.slot_dict_get dd.typeIs PySem.F.entry_dict_get (PySem.F.args_dict_get_2 _ _) (meetsH_dict_get (tupleKind (cX X.prog X.w)) a b hd) ⟨tupleKind_room_in1 hu,k,xs,nk I.bU eb,dd,h _ _ (I.tok _) ?_⟩;rw[l];exact(rel.val k).getD rfl
end
def Kx(td ty:TE):TE:=fun σ H Q=>td σ H fun x H1=>∃a,x= .ref a∧RB H1 a∧ty σ H1 fun y H2=>∃o,jZ H2 a y o∧Q (o.getD .cJ) H2
section
variable{X:Cx}{o e f:Expr}{apos eD:Pos}{td ty tx:TE}
theorem D8(hu:X.A.units+1<cLine)(ho:PE X o td)(he:PE X e ty)(m:M1 X o "get" apos e eD):PE X (.Call (.Attribute o "get" apos) [e] [] eD) (Kx td ty):=by
 intro pins s σ H Q I h;refine wpAny_Call_method m.base m.uB m.line PySem.F.plainAttrs_dict PySem.F.slot_dict_get PySem.F.type_dict_get (cD (ho pins s σ H _ I h) fun u s1 ⟨x,H1,I1,rx,a,ex,d,q1⟩=>?_);subst ex;obtain rfl:u=Value.ref a:=rx;obtain⟨t1,t2,_⟩:=D7 I1 d;refine⟨t1,t2,?_⟩;rw[m.trees];refine Calls.callWith_builtin rfl (Calls.evalArgs_plain (Calls.spliced_cons (cD (he pins s1 σ H1 _ I1 q1) fun iv s2 ⟨y,H2,I2,ry,ov,g,q2⟩=>Calls.spliced_nil ?_)));exact Kv hu I2 g ry fun w' s3 I3 iY=>⟨_,H2,I3,iY,q2⟩
end
section
variable{X:Cx}{pins:List (Addr×Obj)}{σ:St}{H:Hp}{s:Shared}{a:Addr}{kvs:List (Key×V)}{A:Around}{E:Value→Shared→Prop}
end
section
variable{X:Cx}{pins:List (Addr×Obj)}{σ:St}{H:Hp}{s:Shared}{a:Addr}{y:V}{u:Value}{A:Around}{E:Value→Shared→Prop}
end
end L2
namespace HT
open PySem PyProof.Rows
section
open PySem.SeqAt
open PySem.AutoSeq1 (wpAny_loadPart')
open PySem.MeetsSeq PySem.MeetsSeq2 PySem.MeetsSeq3
end
section
variable{prog:Program}{w:World}{A:Around}{E:Value→Shared→Prop}{s:Shared}
def kx(n d:Nat):Option Int→Nat
 |none=>d
 |some v=>if v<0 then(v+(n:Int)).toNat else min v.toNat n
theorem aaT(n d:Nat):kx n d none=d:=rfl
theorem D_(n d:Nat)(hd:d≤n)(o:Option Int):kx n d o≤n:=by
 cases o with
 |none=>exact hd
 |some v=>
  show(if v<0 then(v+(n:Int)).toNat else min v.toNat n)≤n;by_cases hv:v<0
  ·rw[HB hv];omega
  ·rw[Dt hv];exact Nat.min_le_right _ _
end
end HT
namespace L2
open PySem PySem.Spec PyProof.Rows
abbrev TO:=St→Hp→(Option Int→Hp→Prop)→Prop
def PO(X:Cx)(e:Option Expr)(t:TO):Prop:=
 ∀(pins:List (Addr×Obj))(s:Shared)(σ:St)(H:Hp)(Q:Option Int→Hp→Prop),Inv X pins σ H s→t σ H Q→
  wpAny (model X.prog X.w) X.A (evalPart e X.env) (fun u s'=>∃o H',Inv X pins σ H' s'∧IsPart u o∧Q o H') X.xe s
def G0:TO:=fun _ H Q=>Q none H
def NL(t:TE):TO:=fun σ H Q=>t σ H fun x H1=>∃i,x= .int i∧Q (some i) H1
section
variable{X:Cx}{e:Expr}{te:TE}{lo hi:Option Expr}{tl th:TO}{pos p2:Pos}
theorem wt:PO X none G0:=by
 intro pins s σ H Q I h;rw[evalPart_none];exact W0 ⟨none,H,I, .none,h⟩
theorem oA(h:PE X e te):PO X (some e) (NL te):=by
 intro pins s σ H Q I hw;rw[evalPart_some];refine cD (h pins s σ H _ I hw) fun u s1 ⟨x,H1,I1,r1,q1⟩=>?_
 obtain⟨i,rfl,q⟩:=q1;obtain⟨t,rfl⟩:=r1;exact⟨some i,H1,I1, .int i t,q⟩
def PV(X:Cx)(r:V→Option Int→Option Int→Hp→VK→Prop):Prop:=
 ∀(pins:List (Addr×Obj))(s:Shared)(σ:St)(H:Hp)(x:V)(v vl vu:Value)(lo hi:Option Int)(sl:Addr)(Q:VK),Inv X pins σ H s→RelV x v→s.heap.IsSliceOf sl vl vu .none→IsPart vl lo→IsPart vu hi→r x lo hi H Q→
  ∃T id,typeLookup (.type T) "__getitem__"=pure (some (.builtin id))∧s.TypeIs v T∧wpAny (model X.prog X.w) X.A (getItem v (.ref sl)) (EP X pins σ Q) X.xe s
def WJ(r:V→Option Int→Option Int→Hp→VK→Prop)(te:TE)(tl th:TO):TE:=fun σ H Q=>te σ H fun x H1=>tl σ H1 fun l H2=>th σ H2 fun u H3=>r x l u H3 Q
theorem oB{r:V→Option Int→Option Int→Hp→VK→Prop}(hr:PV X r)(he:PE X e te)(hl:PO X lo tl)(hu:PO X hi th):PE X (.Subscript e (.Slice lo hi none p2) pos) (WJ r te tl th):=by
 intro pins s σ H Q I h;refine Subscript_ (cD Δ fun v s1 ⟨x,H1,I1,r1,q1⟩=>?_);refine wpAny_Slice (cD (hl pins s1 σ H1 _ I1 q1) fun vl s2 ⟨l,H2,I2,pl,q2⟩=>cD (hu pins s2 σ H2 _ I2 q2) fun vu s3 ⟨u,H3,I3,pu,q3⟩=>?_);rw[evalPart_none];refine wpAny_pure ?_;have I4:Inv X pins σ H3 {s3 with heap:=s3.heap.push {cls:= .type "slice",data:= .fields #[vl,vu, .none]}}:=I3.kept (t':=s3.toks) fun b ob q=>YG q
 obtain⟨T,id,hT,ht,hg⟩:=hr pins {s3 with heap:=s3.heap.push {cls:= .type "slice",data:= .fields #[vl,vu, .none]}} σ H3 x v vl vu l u s3.heap.objs.size Q I4 r1 (Heap.IsSliceOf.new ..) pl pu q3;show wpAny (model X.prog X.w) X.A (subscriptTail e (.Slice lo hi none p2) v (.ref s3.heap.objs.size)) (EP X pins σ Q) X.xe {s3 with heap:=s3.heap.push {cls:= .type "slice",data:= .fields #[vl,vu, .none]}};exact tail_any (ops:=[.ref s3.heap.objs.size,v]) ht hT hg (by with_unfolding_all rfl)
def Cm(xs:List V)(lo hi:Option Int):List V:=(xs.drop (HT.kx xs.length 0 lo)).take (HT.kx xs.length xs.length hi-HT.kx xs.length 0 lo)
theorem yv(xs:List V)(lo hi:Option Int):(Cm xs lo hi).length≤xs.length:=by
 unfold Cm;rw[List.length_take,List.length_drop];omega
end
def Ea(n:Nat)(i:Int):Option Nat:=if 0≤i then(if i<n then some i.toNat else none)else if-(n:Int)≤i then some (i+n).toNat else none
def so{α:Type}(xs:List α)(i:Int):Option α:=(Ea xs.length i).bind fun j=>xs[j]?
theorem Bb{n:Nat}{i:Int}{j:Nat}(h:Ea n i=some j):seqIndex? i n=some j∧j<n∧-(n:Int)≤i∧i<n:=by
 unfold Ea at h;by_cases h0:0≤i
 ·rw[HB h0]at h;by_cases h1:i<n
  ·rw[HB h1]at h;have e:i.toNat=j:=WK h;exact⟨by rw[seqIndex_of h0 h1,e],by omega,by omega,h1⟩
  ·rw[Dt h1]at h;cases h
 ·rw[Dt h0]at h;by_cases h1:-(n:Int)≤i
  ·rw[HB h1]at h;have e:(i+n).toNat=j:=WK h;exact⟨by rw[seqIndex_neg Zd h1,e],by omega,h1,by omega⟩
  ·rw[Dt h1]at h;cases h
theorem wu{α:Type}{xs:List α}{i:Int}{v:α}(h:so xs i=some v):∃j,seqIndex? i xs.length=some j∧xs[j]?=some v∧j<xs.length∧-(xs.length:Int)≤i∧i<xs.length:=by
 unfold so at h;cases e:Ea xs.length i with
 |none=>rw[e]at h;cases h
 |some j=>
  rw[e]at h;obtain⟨h1,h2,h3,h4⟩:=Bb e;exact⟨j,h1,h,h2,h3,h4⟩
theorem ar{α:Type}{xs:List α}{j:Nat}{v:α}(h:xs[j]?=some v):so xs (j:Int)=some v:=by
 have hj:j<xs.length:=(ZX h).1;have e:Ea xs.length (j:Int)=some j:=by
  unfold Ea;rw[if_pos Zd,if_pos Zd];simp
 unfold so;rw[e];exact h
theorem yw{α:Type}(xs:List α)(v:α):so (xs++[v]) (-1)=some v:=by
 have hl:(xs++[v]).length=xs.length+1:=IM;have e:Ea (xs++[v]).length (-1)=some xs.length:=by
  unfold Ea;rw[hl,if_neg ZO,if_pos Zd]
  congr 1
  omega
 unfold so;rw[e];show(xs++[v])[xs.length]?=some v;simp
def G6(b:Expr):Prop:=∀o i,subscripted b false o i=operate [o,i] (getItem o i)
def Mq(X:Cx)(r:R2):Prop:=
 ∀(value slice:Expr)(pins:List (Addr×Obj))(s:Shared)(σ:St)(H:Hp)(x y:V)(v u:Value)(Q:VK),Inv X pins σ H s→RelV x v→RelV y u→r x y H Q→
  subscripted slice false v u=operate [v,u] (getItem v u)→wpAny (model X.prog X.w) X.A (subscriptTail value slice v u) (EP X pins σ Q) X.xe s
def PX(X:Cx)(id:String)(r:V→List V→Hp→VK→Prop):Prop:=
 ∀(pins:List (Addr×Obj))(s:Shared)(σ:St)(H:Hp)(x:V)(xs:List V)(v:Value)(us:List Value)(Q:VK),Inv X pins σ H s→RelV x v→Vals xs us→r x xs H Q→
  wpAny (model X.prog X.w) X.A (call (.builtin id) (v::us)) (EP X pins σ Q) X.xe s
section
variable{X:Cx}{a b:Expr}{ta tb:TE}{pos:Pos}
theorem aB{r:R2}(hr:Mq X r)(ha:PE X a ta)(hb:PE X b tb)(hs:G6 b):PE X (.Subscript a b pos) (PU r ta tb):=by
 intro pins s σ H Q I h;exact Subscript_ (Kh ha hb I h fun v u s2 x y H2 I2 rx ry q=>hr a b pins s2 σ H2 x y v u Q I2 rx ry q (hs _ _))
inductive Kz(K:PySem.W.Frag)(x:V)(y:V)(H:Hp)(Q:VK):Prop
 |mk (p:_) (xs:_) (i:_) (v:_) (_:x= .ref p) (_:y= .int i) (_:il K H p xs) (_:so xs i=some v) (_:Q v H):Kz K x y H Q
inductive KA(K:PySem.W.Frag)(x:V)(y:V)(H:Hp)(Q:VK):Prop
 |mk (p:_) (xs:_) (i:_) (v:_) (_:x= .ref p) (_:y= .int i) (_:DO K H p xs) (_:so xs i=some v) (_:Q v H):KA K x y H Q
inductive NM(x:V)(y:V)(H:Hp)(Q:VK):Prop
 |mk (z:_) (i:_) (c:_) (_:x= .str z) (_:y= .int i) (_:z.length≤sizeLine) (_:so z.cps.toList i=some c) (_:Q (.str ⟨#[c]⟩) H):NM x y H Q
theorem G7:Mq X (Kz X.K):=by
 intro value slice pins s σ H x y v u Q I rx ry h hs;obtain⟨p,xs,i,z,rfl,rfl,hq,he,q⟩:=h;cases rx;obtain⟨t,rfl⟩:=ry;obtain⟨its,r,pl,hz⟩:=I.list hq;obtain⟨j,h1,h2,h3,h4,h5⟩:=wu he;obtain⟨w,ew,iY⟩:=r.get h2;have hl:=r.length;have hn:=qg;have fin:EP X pins σ Q w s:=⟨z,H,I,iY,q⟩
 by_cases h0:0≤i
 ·have hj:i.toNat=j:=by
   rw[seqIndex_of h0 h5]at h1;exact WK h1
  exact item_listR pl.isList h0 Zd (by rw[hj];simpa using ew) fin hs
 ·have hj:(i+(its.toArray.size:Int)).toNat=j:=by
   rw[seqIndex_neg Zd h4]at h1;rw[List.size_toArray,←hl];exact WK h1
  exact subscriptTail_builtinR (x:=w) pl.isList.typeIs slot_list_getitem.lookup
   (wpAny_getItem_list_neg (Q:=fun r s'=>r=w∧EP X pins σ Q r s') pl.isList Zd (by rw[List.size_toArray]<;>omega) (by omega) (by rw[hj];simpa using ew) ⟨rfl,fin⟩) hs
theorem KC:Mq X (KA X.K):=by
 intro value slice pins s σ H x y v u Q I rx ry h hs;obtain⟨p,xs,i,z,rfl,rfl,hq,he,q⟩:=h;cases rx;obtain⟨t,rfl⟩:=ry;obtain⟨its,r,pl,hz⟩:=I.tuple hq;obtain⟨j,h1,h2,h3,h4,h5⟩:=wu he;obtain⟨w,ew,iY⟩:=r.get h2;have hl:=r.length;have hn:=qg;have fin:EP X pins σ Q w s:=⟨z,H,I,iY,q⟩
 exact subscriptTail_builtinR (x:=w) pl.typeIs slot_tuple_getitem.lookup
  (getItem_tuple (j:=j) (Q:=fun r s'=>r=w∧EP X pins σ Q r s') pl Zd (by omega) (by rw[List.size_toArray,←hl];exact h1) (by simpa using ew) ⟨rfl,fin⟩) hs
theorem Eb:Mq X NM:=by
 intro value slice pins s σ H x y v u Q I rx ry h hs;obtain⟨z,i,c,rfl,rfl,hz,he,q⟩:=h;obtain⟨t,rfl⟩:=rx;obtain⟨t',rfl⟩:=ry;obtain⟨j,h1,h2,h3,h4,h5⟩:=wu he;have hl:z.cps.toList.length=z.length:=by simp[Str.length]
 rw[hl]at h1 h4 h5;have hn:=qg;exact tail_any (typeIs_str s z t) slot_str_getitem.lookup (getItem_str (c:=c) (by
  have e1:decide (i< -(2^63:Int))=false:=decide_eq_false Zd;have e2:decide (i≥2^63)=false:=decide_eq_false Zd;rw[e1,e2,Bool.or_false]) (by rw[h1];simpa using h2) ⟨.str ⟨#[c]⟩,H,I.tok _,⟨_,rfl⟩,q⟩) hs
theorem zS(its:List Value)(n j:Nat)(u:Value):Obj.mapSeq (·.setIfInBounds j u) {cls:= .type "list",data:= .seq its.toArray n}={cls:= .type "list",data:= .seq (its.set j u).toArray n}:=by
 simp[Obj.mapSeq]
theorem Inv.lst{pins:List (Addr×Obj)}{σ:St}{H:Hp}{s:Shared}{p:Addr}{xs:List V}(I:Inv X pins σ H s)(h:H p=some (.lst xs)):
  ∃(its:List Value)(n:Nat),Vals xs its∧s.heap.get? p=some {cls:= .type "list",data:= .seq its.toArray n}∧xs.length≤sizeLine:=by
 obtain⟨z,its,n,r,e⟩:=I.bU p _ h;exact⟨its,n,r,e,z⟩
theorem Inv.KD{pins:List (Addr×Obj)}{σ:St}{H:Hp}{s:Shared}{p:Addr}{xs ys:List V}{its its':List Value}{n n':Nat}{f:Obj→Obj}(I:Inv X pins σ H s)(h:H p=some (.lst xs))
  (ho:s.heap.get? p=some {cls:= .type "list",data:= .seq its.toArray n}) (hf:f {cls:= .type "list",data:= .seq its.toArray n}={cls:= .type "list",data:= .seq its'.toArray n'}) (r:Vals ys its') (hz:ys.length≤sizeLine) (t:Nat):
  Inv X pins σ (upd H p (.lst ys)) {s with heap:=s.heap.update p f,toks:=t}:=by
 have e:(s.heap.update p f).get? p=some {cls:= .type "list",data:= .seq its'.toArray n'}:=by
  rw[Heap.get?_update_self f ho (by rw[hf]<;>rfl),hf]
 refine I.write (x:=p) (e:=p) (by rw[h];trivial) (.inl rfl) (fun b u hb q=>(Heap.get?_update_other _ _ (WR hb)).trans q) ⟨_,e⟩ ?_;exact⟨hz,its',n',r,e⟩
inductive IX(o:V)(i:V)(v:V)(H:Hp)(Q:(Hp→Prop)):Prop
 |mk (p:_) (xs:_) (k:_) (j:_) (_:o= .ref p) (_:i= .int k) (_:H p=some (.lst xs)) (_:Ea xs.length k=some j) (_:Q (upd H p (.lst (xs.set j v)))):IX o i v H Q
theorem set_list:Nt X IX:=by
 intro pins s σ H o i v ov iv u Q I ro ri rv h;obtain⟨p,xs,k,j,rfl,rfl,hp,hj,q⟩:=h;cases ro;obtain⟨t,rfl⟩:=ri;obtain⟨its,n,r,ho,hz⟩:=I.lst hp;obtain⟨h1,h2,h3,h4⟩:=Bb hj;have hl:=r.length;have hn:=qg;have I':Inv X pins σ (upd H p (.lst (xs.set j v))) {s with heap:=s.heap.update p (Obj.mapSeq (·.setIfInBounds j u))}:=
  I.KD hp ho (zS its n j u) (r.set rv j) (by rw[List.length_set];exact hz) s.toks
 by_cases h0:0≤k
 ·have hk:k.toNat=j:=by
   rw[seqIndex_of h0 h4]at h1;exact WK h1
  exact PySem.W.ki_setAt ho h0 Zd (by rw[List.size_toArray,←hl];exact h4) (by rw[hk];exact⟨_,I',q⟩)
 ·have hk:(k+(its.toArray.size:Int)).toNat=j:=by
   rw[seqIndex_neg Zd h3]at h1;rw[List.size_toArray,←hl];exact WK h1
  exact PySem.W.ki_setBack ho Zd (by rw[List.size_toArray,←hl];exact h3) (by omega) (by rw[hk];exact⟨_,I',q⟩)
theorem wz(lo hi:Option Int)(n:Nat):(sliceBounds lo hi none n).1=((HT.kx n 0 lo:Nat):Int)∧(sliceBounds lo hi none n).2.1=((HT.kx n n hi:Nat):Int)∧(sliceBounds lo hi none n).2.2=1:=by
 refine⟨?_,?_,rfl⟩
 ·cases lo with
  |none=>simp[sliceBounds,HT.kx]
  |some i=>
   simp only[sliceBounds,HT.kx,Option.getD_none,show(1:Int)>0 by decide,if_true];by_cases h:i<0
   ·simp only[h,if_true]<;>lia
   ·simp only[h,if_false]<;>lia
 ·cases hi with
  |none=>simp[sliceBounds,HT.kx]
  |some i=>
   simp only[sliceBounds,HT.kx,Option.getD_none,show(1:Int)>0 by decide,if_true];by_cases h:i<0
   ·simp only[h,if_true]<;>lia
   ·simp only[h,if_false]<;>lia
theorem uG(its:List Value)(lo hi:Option Int):slicePick its.toArray lo hi none=((its.drop (HT.kx its.length 0 lo)).take (HT.kx its.length its.length hi-HT.kx its.length 0 lo)).toArray:=by
 obtain⟨h1,h2,h3⟩:=wz lo hi its.toArray.size;unfold slicePick;rw[h1,h2,h3];simp only[sliceRange_one,pick_run,List.size_toArray]<;>rfl
inductive KG(K:PySem.W.Frag)(x:V)(lo:Option Int)(hi:Option Int)(H:Hp)(Q:VK):Prop
 |mk (a:_) (xs:_) (_:x= .ref a) (_:il K H a xs) (_:∀p,H p=none→Q (.ref p) (upd H p (.lst (Cm xs lo hi)))):KG K x lo hi H Q
theorem G8:PV X (KG X.K):=by
 intro pins s σ H x v vl vu lo hi sl Q I rx hs pl pu h;obtain⟨a,xs,rfl,hx,q⟩:=h;cases rx;obtain⟨its,r,ht,hz⟩:=I.list hx;have hlen:=r.length;refine⟨"list",_,slot_list_getitem.lookup,ht.isList.typeIs,?_⟩;refine wpAny_getItem_list_slice ht.isList hs pl pu .none (IM) ?_ (by rw[List.size_toArray]<;>omega);rw[uG,←hlen];refine⟨.ref s.heap.objs.size,_,I.laid (t':=s.toks) (o:= .lst (Cm xs lo hi)) (fun b ob q=>YG q) (Nat.le_refl _) ?_,rfl,q _ (I.bU.fresh YH)⟩;exact⟨ZN (yv xs lo hi) hz,_,0,(r.drop (HT.kx xs.length 0 lo)).take (HT.kx xs.length xs.length hi-HT.kx xs.length 0 lo),Heap.get?_push_size _ rfl⟩
def rp:V→Bool
 | .cJ=>true
 | .bl _=>true
 | .int _=>true
 | .str _=>true
 | _=>false
def wA:V→V→Bool
 | .cJ, .cJ=>true
 | .bl a, .bl b=>a==b
 | .bl a, .int b=>(if a then 1 else 0)==b
 | .int a, .bl b=>a==(if b then 1 else 0)
 | .int a, .int b=>a==b
 | .str a, .str b=>a==b
 | _,_=>false
theorem wB{A:Around}{s:Shared}{y x:V}{u v:Value}(ry:RelV y u)(rx:RelV x v)(fy:rp y=true)(fx:rp x=true):SeqAt.EqAt A s u v (wA y x):=by
 cases y with
 |cJ=>
  cases ry;cases x with
  |cJ=>cases rx;exact SeqAt.EqAt.same _
  |bl b=>cases rx;exact SeqAt.EqAt.none_bool b
  |int b=>obtain⟨t,rfl⟩:=rx;exact SeqAt.EqAt.none_int b t
  |str b=>obtain⟨t,rfl⟩:=rx;exact SeqAt.EqAt.none_str b t
  | _=>exact Zr (show false=true from fx)
 |bl a=>
  cases ry;cases x with
  |cJ=>cases rx;exact SeqAt.EqAt.bool_none a
  |bl b=>cases rx;exact SeqAt.EqAt.bool_bool a b
  |int b=>obtain⟨t,rfl⟩:=rx;exact SeqAt.EqAt.bool_int a b t
  |str b=>obtain⟨t,rfl⟩:=rx;exact SeqAt.EqAt.bool_str a b t
  | _=>exact Zr (show false=true from fx)
 |int a=>
  obtain⟨t',rfl⟩:=ry;cases x with
  |cJ=>cases rx;exact SeqAt.EqAt.int_none a t'
  |bl b=>cases rx;exact SeqAt.EqAt.int_bool a t' b
  |int b=>obtain⟨t,rfl⟩:=rx;exact SeqAt.EqAt.int_int a t' b t
  |str b=>obtain⟨t,rfl⟩:=rx;exact SeqAt.EqAt.int_str a t' b t
  | _=>exact Zr (show false=true from fx)
 |str a=>
  obtain⟨t',rfl⟩:=ry;cases x with
  |cJ=>cases rx;exact SeqAt.EqAt.str_none a t'
  |bl b=>cases rx;exact SeqAt.EqAt.str_bool a t' b
  |int b=>obtain⟨t,rfl⟩:=rx;exact SeqAt.EqAt.str_int a t' b t
  |str b=>obtain⟨t,rfl⟩:=rx;exact SeqAt.EqAt.str_str a t' b t
  | _=>exact Zr (show false=true from fx)
 | _=>exact Zr (show false=true from fy)
theorem wC:iD X (.builtin "len") (fun xs H Q=>∃p ys,xs=[.ref p]∧(il X.K H p ys∨DO X.K H p ys)∧Q (.int ys.length) H):=by
 intro pins s σ H xs us Q I r h;obtain⟨p,ys,rfl,hq,q⟩:=h;obtain⟨u,rfl,rx⟩:=vals1 r;cases rx;have hn:=qg;rcases hq with hq|hq
 ·obtain⟨its,r',pl,hz⟩:=I.list hq;have hlen:=r'.length;exact Calls.call_len_list pl.isList (by simp only[List.size_toArray]<;>omega) ⟨.int ys.length,H,I.tok _,⟨s.toks+1,by rw[List.size_toArray,hlen]⟩,q⟩
 ·obtain⟨its,r',pl,hz⟩:=I.tuple hq;have hlen:=r'.length;exact len_tuple pl (by simp only[List.size_toArray]<;>omega) ⟨.int ys.length,H,I.tok _,⟨s.toks+1,by rw[List.size_toArray,hlen]⟩,q⟩
theorem oC:iD X (.builtin "len") (fun xs H Q=>∃z,xs=[.str z]∧z.length≤sizeLine∧Q (.int z.length) H):=by
 intro pins s σ H xs us Q I r h;obtain⟨z,rfl,hz,q⟩:=h;obtain⟨u,rfl,t,rfl⟩:=vals1 r;have hn:=qg;exact len_str Zd ⟨.int z.length,H,I.tok _,⟨_,rfl⟩,q⟩
theorem wD:iD X (.type "list") (fun xs H Q=>∃p ys,xs=[.ref p]∧(il X.K H p ys∨DO X.K H p ys)∧∀l,H l=none→Q (.ref l) (upd H l (.lst ys))):=by
 intro pins s σ H xs us Q I r h;obtain⟨p,ys,rfl,hq,q⟩:=h;obtain⟨u,rfl,rx⟩:=vals1 r;cases rx;have fin:∀(its:List Value),Vals ys its→ys.length≤sizeLine→∀(h':Heap)(c':Nat),(∀b o',s.heap.get? b=some o'→h'.get? b=some o')→
   h'.get? s.heap.objs.size=some {cls:= .type "list",dict:=none,data:= .seq its.toArray c',slots:=#[]}→EP X pins σ Q (.ref s.heap.objs.size) {s with heap:=h'}:=fun its r' hz h' c' kp e=>
  ⟨.ref s.heap.objs.size,_,I.laid (t':=s.toks) kp YH (show cL X.prog X.w _ h' _ (.lst ys)from⟨hz,its,c',r',e⟩),rfl,q _ (I.bU.fresh YH)⟩
 rcases hq with hq|hq
 ·obtain⟨its,r',pl,hz⟩:=I.list hq;have hlen:=r'.length;obtain⟨o,ho,hc,n,hd⟩:=pl.isList;exact call_list_seq p (.inl rfl) ho hc hd (fun h' c' kp e=>fin its r' hz h' c' kp e) (by simp only[List.size_toArray]<;>omega)
 ·obtain⟨its,r',pl,hz⟩:=I.tuple hq;have hlen:=r'.length;obtain⟨o,ho,hc,n,hd⟩:=pl;exact call_list_seq p (.inr rfl) ho hc hd (fun h' c' kp e=>fin its r' hz h' c' kp e) (by simp only[List.size_toArray]<;>omega)
def RD(K:PySem.W.Frag)(T:String)(x:V)(H:Hp):Prop:=match x with
 | .str _=>T="str"
 | .int _=>T="int"
 | .ref p=>(T="list"∧∃xs,il K H p xs)∨(T="tuple"∧∃o,K.lookup p=some o∧o.cls= .type "tuple"∧o.dict=none)∨
   (T="dict"∧((∃kvs,H p=some (.dK kvs))∨∃kvs,H p=some (.dT kvs)))∨(T="set"∧∃S n,H p=some (.set S n))
 | _=>False
theorem Ec{pins:List (Addr×Obj)}{σ:St}{H:Hp}{s:Shared}{T:String}{x:V}{v:Value}(I:Inv X pins σ H s)(r:RelV x v)(ty:RD X.K T x H):
  s.TypeIs v T∧∀a,v= .ref a→∃ob,s.heap.get? a=some ob∧ob.dict=none:=by
 cases x with
 |str z=>
  obtain⟨t,rfl⟩:=r;cases(show T="str" from ty);exact⟨typeIs_str s z t,fun _ e=>nomatch e⟩
 |int i=>
  obtain⟨t,rfl⟩:=r;cases(show T="int" from ty);exact⟨typeIs_int s i t,fun _ e=>nomatch e⟩
 |ref p=>
  cases r;rcases ty with⟨rfl,xs,hq⟩|⟨rfl,o,hk,hc,hd⟩|⟨rfl,hk⟩|⟨rfl,S,n,hk⟩
  ·obtain⟨its,_,pl,_⟩:=I.list hq;refine⟨pl.isList.typeIs,fun a e=>?_⟩;cases e;obtain⟨o,n,e,c,hd,_⟩:=pl;exact⟨o,e,hd⟩
  ·refine⟨⟨o,I.qe p o hk,hc⟩,fun a e=>?_⟩;cases e;exact⟨o,I.qe _ o hk,hd⟩
  ·have z:∃o,s.heap.get? p=some o∧o.ExactDict:=by
    rcases hk with⟨kvs,hk⟩|⟨kvs,hk⟩
    ·obtain⟨_,_,_,_,o,_,_,e,ex,_⟩:=I.bU p _ hk;exact⟨o,e,ex⟩
    ·obtain⟨_,_,_,_,o,_,_,e,ex,_⟩:=I.bU p _ hk;exact⟨o,e,ex⟩
   obtain⟨o,e,ex⟩:=z;refine⟨⟨o,e,ex.1⟩,fun a e2=>?_⟩;cases e2;exact⟨o,e,ex.2.1⟩
  ·obtain⟨o,_,_,_,e,ex,_⟩:=I.bU p _ hk;refine⟨⟨o,e,ex.1⟩,fun a e2=>?_⟩;cases e2;exact⟨o,e,ex.2.1⟩
 | _=>exact False.elim ty
def NN(K:PySem.W.Frag)(T:String)(r:V→List V→Hp→VK→Prop)(to:TE):TE:=fun σ H Q=>to σ H fun x H1=>RD K T x H1∧r x [] H1 Q
def UE(K:PySem.W.Frag)(T:String)(r:V→List V→Hp→VK→Prop)(to:TE)(t:TA):TE:=fun σ H Q=>to σ H fun x H1=>RD K T x H1∧t σ H1 fun xs H2=>r x xs H2 Q
variable{o e:Expr}{es:List Expr}{to:TE}{t:TA}{name:Str}{apos eD:Pos}{T id:String}{r:V→List V→Hp→VK→Prop}
theorem KH(pa:PlainAttrs T)(slot:Slot T name id)(Dv:typeOf (.builtin id)=pure (.type "method_descriptor"))(hm:PX X id r)(ho:PE X o to)
  (oE:attributeBase o name X.env (eval o X.env)=eval o X.env:=by rfl) (oF:(apos.endLine==eD.line)=true:=by rfl):PE X (.Call (.Attribute o name apos) [] [] eD) (NN X.K T r to):=by
 intro pins s σ H Q I h;refine wpAny_Call_method0_late oE oF (cD (ho pins s σ H _ I h) fun v s1 ⟨x,H1,I1,r1,ty,q1⟩=>?_);obtain⟨h1,h2⟩:=Ec I1 r1 ty;exact⟨T,id,pa,slot,Dv,h1,h2,Calls.callWith_builtin rfl (PySem.evalArgs_none (hm pins s1 σ H1 x [] v [] Q I1 r1 .nil q1))⟩
theorem NO(pa:PlainAttrs T)(slot:Slot T name id)(Dv:typeOf (.builtin id)=pure (.type "method_descriptor"))(hm:PX X id r)(ho:PE X o to)(ha:PA X (e::es) t)
  (oE:attributeBase o name X.env (eval o X.env)=eval o X.env:=by rfl)
  (Ed:((backTo eD (starEach (e::es) X.env)).all (fun x=>!x.1)&&(Ο eD).all (fun x=>x.1.isSome)
   &&decide ((e::es).length+([]:List Keyword).length+(if ([]:List Keyword).isEmpty then 0 else 1)<30))=true:=by rfl)
  (oF:(apos.endLine==eD.line)=true:=by rfl) (hs:starEach (e::es) X.env=(false,eval e X.env)::starEach es X.env:=by rfl) (zT:(kU eD).any (·.1)=false:=by rfl):
  PE X (.Call (.Attribute o name apos) (e::es) [] eD) (UE X.K T r to t):=by
 intro pins s σ H Q I h;refine wpAny_Call_method_late oE Ed oF rfl (cD (ho pins s σ H _ I h) fun v s1 ⟨x,H1,I1,r1,ty,q1⟩=>?_);obtain⟨h1,h2⟩:=Ec I1 r1 ty;refine⟨T,id,pa,slot,Dv,h1,h2,?_⟩;have hA:=ha eD pins s1 σ H1 _ I1 q1;rw[hs]at hA⊢;refine Calls.callWith_builtin (by show(false||(kU eD).any (·.1))=false;rw[zT]<;>rfl) (Calls.evalArgs_plain ?_);exact cD hA fun us s2 ⟨vs,H2,I2,r2,q2⟩=>hm pins s2 σ H2 x vs v us Q I2 r1 r2 q2
end
def RE(X:Cx)(id:String)(r:V→List V→Hp→VK→Prop):Prop:=
 ∀(pins:List (Addr×Obj))(s:Shared)(σ:St)(H:Hp)(x:V)(xs:List V)(v:Value)(us:List Value)(Q:VK),Inv X pins σ H s→RelV x v→Vals xs us→r x xs H Q→
  wpAny (model X.prog X.w) X.A (call (.builtin id) (v::us)) (EP X pins σ Q) X.xe s
theorem Vals.one:∀{x:V}{us:List Value},Vals [x] us→∃u,us=[u]∧RelV x u
 | _,_, .cons r .nil=>⟨_,rfl,r⟩
theorem Vals.zero:∀{us:List Value},Vals [] us→us=[]
 | _, .nil=>rfl
theorem Vals.reverse{xs:List V}{us:List Value}(h:Vals xs us):Vals xs.reverse us.reverse:=by
 induction h with
 |nil=>exact .nil
 |cons r t ih=>rw[List.reverse_cons,List.reverse_cons];exact Vals.append ih (.cons r .nil)
theorem Vals.rep{xs:List V}{us:List Value}(h:Vals xs us):∀k:Nat,Vals (List.replicate k xs).flatten (List.replicate k us).flatten
 |0=> .nil
 |k+1=>by
  rw[List.replicate_succ,List.replicate_succ,List.flatten_cons,List.flatten_cons];exact Vals.append h (Vals.rep h k)
theorem foldl_rep(its:List Value):∀(k:Nat)(acc:List Value),
  List.foldl (fun x1 x2=>x1++x2) acc.toArray (List.replicate k its.toArray)=(acc++(List.replicate k its).flatten).toArray
 |0,acc=>IM
 |k+1,acc=>by
  have e:acc.toArray++its.toArray=(acc++its).toArray:=IM;have e2:(acc++its)++(List.replicate k its).flatten=acc++(List.replicate (k+1) its).flatten:=by
   rw[List.replicate_succ,List.flatten_cons,List.append_assoc]
  rw[←e2,←foldl_rep its k (acc++its),←e,List.replicate_succ,List.foldl_cons]
section
variable{X:Cx}{pins:List (Addr×Obj)}{σ:St}{H:Hp}{s:Shared}{l b:Addr}{xs ys zs:List V}
theorem Inv.KI{its its':List Value}{n:Nat}{f:Array Value→Array Value}{t':Nat}(I:Inv X pins σ H s)(hH:H l=some (.lst xs))
  (e:s.heap.get? l=some {cls:= .type "list",data:= .seq its.toArray n}) (hf:f its.toArray=its'.toArray) (hv:Vals ys its') (hz:ys.length≤sizeLine):
  Inv X pins σ (upd H l (.lst ys)) {s with heap:=s.heap.update l (Obj.mapSeq f),toks:=t'}:=by
 have q:=PySem.IsL.update e f;rw[hf]at q;refine I.write (x:=l) (e:=l) (by rw[hH];exact trivial) (.inl rfl) (fun b' u hb hu=>(Heap.get?_update_other s.heap (Obj.mapSeq f) (WR hb)).trans hu) ⟨_,q⟩ ?_;exact⟨hz,its',_,hv,q⟩
theorem Inv.RF{its:List Value}{t':Nat}(I:Inv X pins σ H s)(hv:Vals ys its)(hz:ys.length≤sizeLine):
  Inv X pins σ (upd H s.heap.objs.size (.lst ys)) {s with heap:=s.heap.push {cls:= .type "list",data:= .seq its.toArray},toks:=t'}:=
 I.laid (fun _ _ q=>YG q) (Nat.le_refl _) ⟨hz,its,0,hv,Heap.get?_push_size _ rfl⟩
theorem Inv.fresh(I:Inv X pins σ H s):H s.heap.objs.size=none:=I.bU.fresh YH
theorem Inv.Ee(I:Inv X pins σ H s)(hH:H l=some (.lst xs)):xs.length≤sizeLine∧∃(its:List Value)(n:Nat),Vals xs its∧xs.length=its.length∧s.heap.get? l=some {cls:= .type "list",data:= .seq its.toArray n}:=by
 obtain⟨z,its,n,r,e⟩:=I.bU l _ hH;exact⟨z,its,n,r,r.length,e⟩
theorem yx{n:Nat}(h:n≤sizeLine):Builtin.List.listTooLong n=false:=by
 unfold Builtin.List.listTooLong;exact decide_eq_false Zd
end
section
variable{X:Cx}
inductive Bc(x:V)(vs:List V)(H:Hp)(Q:VK):Prop
 |mk (l:_) (xs:_) (y:_) (_:x= .ref l) (_:vs=[y]) (_:H l=some (.lst xs)) (_:xs.length<sizeLine) (_:Q .cJ (upd H l (.lst (xs++[y])))):Bc x vs H Q
theorem bR:RE X "list.append" Bc:=by
 intro pins s σ H x vs v us Q I rx rv h;obtain⟨l,xs,y,rfl,rfl,hH,hz,q⟩:=h;cases rx;obtain⟨u,rfl,ru⟩:=rv.one;obtain⟨z,its,n,r,hl,e⟩:=I.Ee hH;refine call_meets F.slot_list_append ⟨_,e,rfl⟩ F.entry_list_append (F.args_list_append_2 _ _) (PySem.list_append l its.toArray n u (by rw[List.size_toArray];omega)) ⟨e,?_⟩;refine⟨.cJ,_,I.KI (its':=its++[u]) hH e Mi (r.append (.cons ru .nil)) ?_,rfl,q⟩;rw[List.length_append,List.length_singleton];omega
def G9:V→List V→Hp→VK→Prop:=fun x vs H Q=>∃l b xs zs,x= .ref l∧vs=[.ref b]∧H l=some (.lst xs)∧H b=some (.lst zs)∧xs.length+zs.length≤sizeLine∧Q .cJ (upd H l (.lst (xs++zs)))
theorem vE:RE X "list.extend" G9:=by
 intro pins s σ H x vs v us Q I rx rv h;obtain⟨l,b,xs,zs,rfl,rfl,hH,hB,hz,q⟩:=h;cases rx;obtain⟨u,rfl,ru⟩:=rv.one;cases ru;obtain⟨z,its,n,r,hl,e⟩:=I.Ee hH;obtain⟨z2,dB,n2,r2,vF,e2⟩:=I.Ee hB;have hsz:its.toArray.size+dB.toArray.size≤sizeLine:=by rw[List.size_toArray,List.size_toArray];omega
 have Ef:¬(!its.toArray.isEmpty&&Builtin.List.listTooLong (its.toArray.size+dB.toArray.size))=true:=by
  rw[yx hsz,Bool.and_false];exact Bool.false_ne_true
 refine call_meets F.slot_list_extend ⟨_,e,rfl⟩ F.entry_list_extend (F.args_list_extend_2 _ _)
  (AutoSeq1.list_extend_list_list_0 l its.toArray n b dB.toArray n2 Ef (by rw[List.size_toArray];omega) (by omega)) ⟨e,e2,?_⟩
 refine⟨.cJ,_,I.KI (its':=its++dB) hH e Mi (r.append r2) ?_,rfl,q⟩;rw[List.length_append];omega
def Eh:V→List V→Hp→VK→Prop:=fun x vs H Q=>∃l xs,x= .ref l∧vs=[]∧H l=some (.lst xs)∧Q .cJ (upd H l (.lst xs.reverse))
theorem zU:RE X "list.reverse" Eh:=by
 intro pins s σ H x vs v us Q I rx rv h;obtain⟨l,xs,rfl,rfl,hH,q⟩:=h;cases rx;have RG:=rv.zero;subst RG;obtain⟨z,its,n,r,hl,e⟩:=I.Ee hH;refine call_meets F.slot_list_reverse ⟨_,e,rfl⟩ F.entry_list_reverse (F.args_list_reverse_1 _) (AutoSeq1.list_reverse_list_0 l its.toArray n (by rw[List.size_toArray];omega)) ⟨e,?_⟩;refine⟨.cJ,_,I.KI (its':=its.reverse) hH e Mi r.reverse ?_,rfl,q⟩;rw[List.length_reverse];omega
def RH:R2:=fun x y H Q=>∃l k xs,x= .ref l∧y= .int k∧H l=some (.lst xs)∧-(2^63)≤k∧k<2^63∧xs.length*k.toNat≤sizeLine∧
 ∀p,H p=none→Q (.ref p) (upd H p (.lst (List.replicate k.toNat xs).flatten))
theorem len_rep{α:Type}(xs:List α)(k:Nat):(List.replicate k xs).flatten.length=k*xs.length:=by
 induction k with
 |zero=>simp
 |succ k ih=>rw[List.replicate_succ,List.flatten_cons,List.length_append,ih,Nat.succ_mul,Nat.add_comm]
theorem KJ:rM X (binaryOp .Mult) RH:=by
 intro pins s σ H x y v u Q I rx ry h;obtain⟨l,k,xs,rfl,rfl,hH,h1,h2,hz,q⟩:=h;cases rx;obtain⟨t,rfl⟩:=ry;obtain⟨z,its,n,r,hl,e⟩:=I.Ee hH;have hlen:its.toArray.size*k.toNat≤sizeLine:=by rw[List.size_toArray,←hl];exact hz
 have RJ:¬its.toArray.size*k.toNat>(2^63-1)/8:=by
  have:(sizeLine:Nat)≤(2^63-1)/8:=Nn;omega
 have RK:¬(!Builtin.List.listFitsIndex k)=true:=by
  rw[fitsIndex_both h1 h2];exact Bool.false_ne_true
 have Ef:¬Builtin.List.listTooLong (its.toArray.size*k.toNat)=true:=by
  rw[yx hlen];exact Bool.false_ne_true
 have Cn:List.foldl (fun x1 x2=>x1++x2) #[] (List.replicate (if its.toArray.isEmpty=true then 0 else k.toNat) its.toArray)=(List.replicate k.toNat its).flatten.toArray:=by
  have f0:∀m:Nat,List.foldl (fun x1 x2=>x1++x2) #[] (List.replicate m its.toArray)=(List.replicate m its).flatten.toArray:=fun m=>by
   have:=foldl_rep its m [];rw[List.nil_append]at this;exact this
  rw[f0];cases its with
  |nil=>simp
  |cons a r'=>rw[if_neg Mi]
 refine wpAny_binaryOp_repeat_ref (T:="list") (U:="int") (Nn) ⟨_,e,rfl⟩ (fun s'=>typeIs_int s' k t) noFill_list_mul F.fills_int_mul F.slot_int_rmul repeat_list F.slot_int_index.lookup
  (call_meets F.slot_int_rmul (typeIs_int s k t) F.entry_int_rmul (F.args_int_rmul_2 _ _) (int___rmul___int_list k t l its.toArray n)
   ⟨e,rfl,⟨_,e,rfl⟩,call_meets F.slot_list_mul ⟨_,e,rfl⟩ F.entry_list_mul (F.args_list_mul_2 _ _) (AutoListH.list___mul___list_int_3 l its.toArray n k t RK RJ Ef) ⟨e,?_⟩⟩)
 rw[Cn];exact⟨.ref _,_,I.RF (t':=s.toks) (r.rep k.toNat) (by rw[len_rep,Nat.mul_comm];exact hz),rfl,q _ I.fresh⟩
end
section
variable{prog:Program}{w:World}{A:Around}{E:Value→Shared→Prop}{s:Shared}
end
section
variable{X:Cx}
end
end L2
namespace UG
open PySem PySem.W PySem.Calls PyProof.Rows
theorem rN{P:Params}{h:Heap}:∀(ns:List Int)(vs:List Value),WellAll P h vs (ns.map WData.int)→IntsAre vs ns:=by
 intro ns
 induction ns with
 |nil=>
  intro vs w;rw[List.map_nil]at w;cases w;exact .nil
 |cons n ns ih=>
  intro vs w;rw[List.map_cons]at w;cases w with
  |cons a b=>
   cases a;exact .cons _ _ (ih _ b)
theorem Co{l:OpenLaw}{n:Nat}(hn:l.most=some n){P:Params}{h:Heap}{args:List WData}{vals:List Value}
  (G_:l.row.toRowW.claim.pre args=true) (IY:WellAll P h vals args):
  ∃a vs ns,vals=[Value.ref a]∧args=[WData.list (ns.map WData.int)]∧h.get? a=some {cls:= .type "list",data:= .seq vs.toArray}∧IntsAre vs ns∧ns.length≤n:=by
 have NP:WShape.hasAll [] args [.list .int]=true:=(pre_splitW G_).1;have hc:l.pre.holds [] {args:=args}=true:=(pre_splitW G_).2;obtain⟨d,r,rfl,h1,h2⟩:=hasAllW_cons NP;obtain rfl:=hasAllW_nil h2;obtain⟨xs,rfl,h3⟩:=hasW_list h1;obtain⟨ns,rfl⟩:=items_int h3;have hlen:ns.length≤n:=by
  unfold OpenLaw.pre at hc;have h4:(WTm.not (.lt (.lit (.int (n:Int))) (.len (.arg 0)))).holds [] {args:=[.list (ns.map .int)]}=true:=by
   have h4:=(holds_andW hc).1;rw[hn]at h4;exact h4
  have h5:=condW_of h4 (w_not (w_lt w_lit (w_len_list (w_arg rfl))));rw[List.length_map]at h5;refine Nat.le_of_not_lt fun q=>?_
  have q':(n:Int)<((ns.length:Nat):Int):=by omega
  first
   |(rw[Zn q']at h5;exact absurd h5 ZO)
   |(simp at h5;omega)
 cases IY with
 |cons w1 w2=>
  cases w2;cases w1 with
  |list ho RL=>exact⟨_,_,ns,rfl,rfl,ho,rN ns _ RL,hlen⟩
theorem Cp(l:OpenLaw)(args:List WData):l.row.toRowW.claim.post args (.bool true) args=true:=
 postW_of (r:=l.row.toRowW) (X:=(true==true))
  (show WShape.has [] (.bool true) .bool=true by first|rfl|decide|simp[WShape.has,WShape.arms,WShape.armsAll])
  (show(WTm.eq .res (.lit (.bool true))).value [] {args:=args,res:=some (.bool true),after:=args}=some (.bool (true==true))from w_eq_bool (w_res rfl) w_lit) rfl
theorem yy{l:OpenLaw}{n:Nat}{q:Program}{loose:List Str}{XP:(Str→Option Value)→Heap→Prop}{YP:World→Heap→Prop}{d:DefRec}
  (hn:l.most=some n) (NQ:d.params.defaults=[])
  (call:∀(w:World)(dA cf:Shared)(mg mb:Str→Option Value)(fa:Addr)(o:Obj)(pm cd doc:Value)(a:Addr)(vs:List Value)(ns:List Int),
   Ground q loose [] XP w dA mg mb cf.heap→YP w cf.heap→
   cf.heap.get? fa=some o→o.data= .func (docDef d.name d.params d.body d.scope pm cd doc)→cf.heap.CodeRec cd d.name→mg d.name=some (.ref fa)→
   cf.heap.get? a=some {cls:= .type "list",data:= .seq vs.toArray}→IntsAre vs ns→ns.length≤n→cf.gens=#[]→
   codeAny (model l.prog w) callerA (.call (.ref fa) ⟨[.ref a],[]⟩) (fun r s'=>r= .ok (.ret (.bool true))∧OldK cf.heap s'.heap∧s'.os=cf.os∧AllBare s'.gens) cf):
  WalkO q loose XP YP l.row.toRowW d [] (fun f vs=>PySem.call f vs):=by
 intro w dA cf mg mb G Y fa o pm cd doc dV kV ho hd B8 hD NR hg args vals as G_ aac abQ IY Mr;obtain rfl:dV= .none:=Dflts.none hD NQ;obtain rfl:kV= .none:=Dflts.noKw hD;obtain⟨a,vs,ns,rfl,rfl,KL,hints,hlen⟩:=Co hn G_ IY;refine enter_call (codeAny_mono (call w dA cf mg mb fa o pm cd doc a vs ns G Y ho (fd_plain hd) B8 NR KL hints hlen hg) fun r s' hq=>?_);obtain⟨rfl,h2,h3,h4⟩:=hq;exact⟨.inl ⟨.bool true, .bool true,[],rfl,fun _=>rfl, .bool true,Cp l _,fun _=>⟨List.Pairwise.nil,fun _ hm=>(nomatch hm)⟩⟩,h2,h3,h4⟩
section
variable{prog:Program}{w:World}{A:Around}{E:Value→Shared→Prop}{s:Shared}{K:Frag}
def ledger(h:Heap)(L d:Addr):List (Addr×Obj):=(X_ h.objs.size).filterMap fun a=>if a=L∨a=d then none else(h.get? a).map fun o=>(a,o)
end
end UG
namespace L2
open PySem PySem.Spec PyProof.Rows
theorem vG:∀{vs:List Value}{ns:List Int},IntsAre vs ns→Vals (ns.map V.int) vs
 | _,_, .nil=> .nil
 | _,_, .cons n t h=> .cons ⟨t,rfl⟩ (vG h)
def KN(H:Hp):Prop:=∀b,H b=none∨∃o xs,H b=some (.sj o (.lst xs))
theorem Ei{cm:Bool}{P:Program}{w:World}{K:PySem.W.Frag}{mg mb:Str→Option Value}{CX:DZ}{k:Nat}{fa a:Addr}{fd:FuncData}{x:Str}{sp:Sp}{cf:Shared}{vs:List Value}{ns:List Int}
  (KX:K.In cf.heap) (PY:cf.heap.Ns mainGlobals mg) (hb:cf.heap.Ns builtinsNs mb) (WL:∀x:Str,x≠"__name__"→mb x=bootBuiltins x) (RM:cf.heap.NoLimit) (hg:cf.gens=#[])
  (ha:cf.heap.get? a=some {cls:= .type "list",data:= .seq vs.toArray}) (hi:IntsAre vs ns) (hl:ns.length≤sizeLine) (hr:eQ cm k callerA)
  (F:∀base:Heap,K.In base→base.Ns mainGlobals mg→aZ P w K mg base CX cm k fa fd [x] sp) (NU:∀(s:Shared)(u:Value),BindsTo s fd ⟨[u],[]⟩ [(x,u)])
  (Gm:∀H:Hp,KN H→il K H a (ns.map V.int)→sp [.ref a] H (fun v _=>v= .bl true) fun _ _ _=>False)
  (RN:∀H e s',CX [] H cf (fun _ _ _=>False) e s'→False):
  codeAny (model P w) callerA (.call (.ref fa) ⟨[.ref a],[]⟩) (fun r s'=>r= .ok (.ret (.bool true))∧OldK cf.heap s'.heap∧s'.os=cf.os∧AllBare s'.gens) cf:=by
 have rv:=vG hi;have RO:=hi.length;have core:∀H:Hp,KN H→il K H a (ns.map V.int)→lz P w H cf.heap→(∀b,H b≠none→b=a)→(H a≠none→K.lookup a=none)→
   codeAny (model P w) callerA (.call (.ref fa) ⟨[.ref a],[]⟩) (fun r s'=>r= .ok (.ret (.bool true))∧OldK cf.heap s'.heap∧s'.os=cf.os∧AllBare s'.gens) cf:=by
  intro H hO hS bU hA hK;have Bd:∀{b:Addr}{o:Obj},cf.heap.get? b=some o→H b=none→(v_ cf.heap H).get? b=some o:=fun e n=>DL e n
  have ND:∀{b:Addr}{o:Obj}{es:Array DictEntry}{ep:Nat},cf.heap.get? b=some o→o.data= .dict es ep→H b=none:=fun{b o es ep} e d=>by
   cases q:H b with
   |none=>rfl
   |some u=>
    have e':b=a:=hA b (by rw[q];simp);subst e';rw[ha]at e;cases e;have d':Data.seq vs.toArray _=Data.dict es ep:=d;cases d'
  have PZ:∀{b:Addr}{m:Str→Option Value},cf.heap.Ns b m→(v_ cf.heap H).Ns b m:=fun{b m} ⟨o,es,ep,e,d,r⟩=>⟨o,es,ep,Bd e (ND e d),d,r⟩
  have UH:K.In (v_ cf.heap H):=fun b o e=>Bd (KX b o e) (by
   cases q:H b with
   |none=>rfl
   |some u=>
    have e':b=a:=hA b (by rw[q];simp);subst e';rw[hK (by rw[q];simp)]at e;cases e)
  have hM:Mod K mg (v_ cf.heap H):=⟨UH,PZ PY,⟨mb,PZ hb,WL⟩,let ⟨mc,h1,h2⟩:=RM;⟨mc,PZ h1,h2⟩⟩
  have e0:zP P w K mg (v_ cf.heap H) callerA [] cf H:=⟨rfl,hM,fun b o e=>GG e,Nat.le_of_eq (B5 _ _),trivial,fun b hb=>Zy (show b∈([]:List Addr)from hb),bU, .of_eq hg⟩
  refine codeAny_mono ((F _ UH (PZ PY)).run callerA [] cf H ⟨[.ref a],[]⟩ [.ref a] [.ref a] _ _ hr e0 (NU cf (.ref a)) (.cons rfl .nil) (Gm H hO hS)) fun r s' h=>?_
  cases r with
  |error e=>exact(RN H e s' h).elim
  |ok fl=>
   cases fl with
   |next=>exact False.elim h
   |brk=>exact False.elim h
   |cont=>exact False.elim h
   |ret u=>
    obtain⟨v,H',os,bare,un,RP,r',q⟩:=h;have q':v= .bl true:=q;subst q';obtain rfl:u=Value.bool true:=r';refine⟨rfl,OldK.of_keep fun b o e=>?_,os,bare⟩;cases q:H b with
    |none=>exact un.keep b o e q (by intro z;exact Zy (show b∈([]:List Addr)from z)) (IM)
    |some u=>
     rcases hO b with z|⟨ob,xs,z⟩
     ·rw[q]at z;cases z
     ·have z2:=un.oj b ob _ z;obtain⟨e1,_⟩:=bU b _ z;obtain⟨e2,_⟩:=RP b _ z2;rw[e]at e1;cases e1;exact e2
 cases hk:K.lookup a with
 |some o=>
  have e:=KX a o hk;rw[ha]at e;cases e;refine core (fun _=>none) (fun _=> .inl rfl) (.inr ⟨_,vs.toArray,_,hk,rfl,rfl,rfl,by rw[List.size_toArray,RO];exact hl,by simpa using rv⟩) (fun b u z=>by have z':(none:Option HO)=some u:=z;cases z') (fun b z=>absurd rfl z) fun z=>absurd rfl z
 |none=>
  refine core (fun b=>if b=a then some (.sj {cls:= .type "list",data:= .seq vs.toArray} (.lst (ns.map V.int)))else none) (fun b=>?_) (.inl (.inr ⟨{cls:= .type "list",data:= .seq vs.toArray},if_pos rfl⟩)) (fun b u z=>?_) (fun b z=>?_) fun _=>hk
  ·by_cases hb:b=a
   ·exact .inr ⟨_,_,HB hb⟩
   ·exact .inl (Dt hb)
  ·by_cases hb:b=a
   ·have z':=(HB hb).symm.trans z;cases z';subst hb;exact⟨ha,by rw[List.length_map];exact hl,vs,_,rv,ha⟩
   ·have z':=(Dt hb).symm.trans z;cases z'
  ·by_cases hb:b=a
   ·exact hb
   ·exact V' (Dt hb) z
theorem Ha{cm:Bool}{l:PySem.W.OpenLaw}{n k:Nat}{q:Program}{loose:List Str}{XP:(Str→Option Value)→Heap→Prop}{YP:World→Heap→Prop}{d:DefRec}{K:Params→PySem.W.Frag}{CX:World→DZ}{sp:World→Sp}{x:Str}
  (hn:l.most=some n) (ya:n≤sizeLine) (NQ:d.params.defaults=[]) (hr:eQ cm k callerA)
  (hY:∀(w:World)(h:Heap),YP w h→(K w.params).In h)
  (F:∀(w:World)(mg:Str→Option Value)(fa:Addr)(h:Heap),(K w.params).In h→h.Ns mainGlobals mg→mg d.name=some (.ref fa)→
   ∃fd:FuncData,(∀(s:Shared)(u:Value),BindsTo s fd ⟨[u],[]⟩ [(x,u)])∧
    ∀base:Heap,(K w.params).In base→base.Ns mainGlobals mg→aZ l.prog w (K w.params) mg base (CX w) cm k fa fd [x] (sp w))
  (Gm:∀(w:World)(H:Hp)(a:Addr)(ns:List Int),ns.length≤n→KN H→il (K w.params) H a (ns.map V.int)→sp w [.ref a] H (fun v _=>v= .bl true) fun _ _ _=>False)
  (RN:∀(w:World)(H:Hp)(s:Shared)(e:Value)(s':Shared),CX w [] H s (fun _ _ _=>False) e s'→False):
  PySem.W.WalkO q loose XP YP l.row.toRowW d [] (fun f vs=>PySem.call f vs):=by
 refine UG.yy hn NQ fun w dA cf mg mb fa o pm cd doc a vs ns G Y ho hd B8 NR KL hints hlen hg=>?_
 have KX:=hY w _ Y;obtain⟨fd,hb,hF⟩:=F w mg fa _ KX G.T.g NR;exact Ei KX G.T.g G.T.b G.T.builtins G.T.nolimit hg KL hints (ZN hlen ya) hr hF hb (fun H hO hS=>Gm w H a ns hlen hO hS) fun H e s'=>RN w H cf e s'
def inClass(s:Stmt)(j:Nat):Stmt:=match s with
 | .ClassDef _ _ _ body _ _ _ _ _ _ _=>body.getD j (.Pass ⟨0,0,0,0⟩)
 | _=> .Pass ⟨0,0,0,0⟩
def fG(s:Stmt):Arguments:=match s with
 | .FunctionDef _ a _ _ _ _ _ _ _ _=>a
 | _=>{posonlyargs:=[],args:=[],vararg:=none,kwonlyargs:=[],kw_defaults:=[],kwarg:=none,defaults:=[]}
def eJ(s:Stmt):List Stmt:=match s with
 | .FunctionDef _ _ b _ _ _ _ _ _ _=>b
 | _=>[]
def au(s:Stmt):Scope:=match s with
 | .FunctionDef _ _ _ _ _ _ sc _ _ _=>sc
 | _=>{kind:= .function,names:=[],isGenerator:=false,isCoroutine:=false}
abbrev E0:XK:=fun _ _ _=>False
structure jN(K:PySem.W.Frag)(x qual:Str)(st:Stmt)(f:Addr)(fd:FuncData):Prop where
 ex:∃(oc:Value)(od:Option Addr)(kV doc pm:Value)(an:Option Addr)(bV ct:Value)(Ba:Array (Option Value)),
  fd=PySem.W.fnOf x qual (fG st) (eJ st) (au st) .none kV doc pm an bV ct∧K.lookup f=some ⟨oc,od, .func fd,Ba⟩∧PySem.W.codeIn K bV qual=true
 kp:PySem.W.keepIn K (.ref f)=true
section
variable{P:Program}{w:World}{K:PySem.W.Frag}{mg:Str→Option Value}{base:Heap}
theorem jN.binds{x qual:Str}{st:Stmt}{f:Addr}{fd:FuncData}{ps:List Str}(F:jN K x qual st f fd)
  (h:∀(kV doc pm:Value)(an:Option Addr)(bV ct:Value)(us:List Value),us.length=ps.length→bindArgs (PySem.W.fnOf x qual (fG st) (eJ st) (au st) .none kV doc pm an bV ct) ⟨us,[]⟩=pure (ps.zip us)):Binds K fd ps []:=by
 obtain⟨oc,od,kV,doc,pm,an,bV,ct,Ba,rfl,lk,B8⟩:=F.ex;exact .all (h kV doc pm an bV ct)
theorem Ej{x qual:Str}{st:Stmt}{f:Addr}{oc:Value}{od an:Option Addr}{Ba:Array (Option Value)}{kV doc pm bV ct:Value}(l:K.lookup f=some ⟨oc,od, .func (PySem.W.fnOf x qual (fG st) (eJ st) (au st) .none kV doc pm an bV ct),Ba⟩)
  (c:PySem.W.codeIn K bV qual=true) (k:PySem.W.keepIn K (.ref f)=true):jN K x qual st f (PySem.W.fnOf x qual (fG st) (eJ st) (au st) .none kV doc pm an bV ct):=⟨⟨oc,od,kV,doc,pm,an,bV,ct,Ba,rfl,l,c⟩,k⟩
end
section
variable{X:Cx}
theorem pv(i:Nat){x:Str}{pos:Pos}(hN:X.N[i]?=some x:=by rfl)(hv:Q5 X.env.scope x:=by first|exact Or.inl rfl|exact Or.inr (Or.inl rfl)|exact Or.inr (Or.inr rfl))(hd:(x==("__debug__":Str))=false:=by decide)
  (B8:(x==("__classdict__":Str))=false:=by decide):PE X (.Name x pos) (J9 i):=J_ hN hv hd B8
end
theorem gM{A B:Prop}(h:B):if false=true then A else B:=by
 rw[Dt Bool.false_ne_true];exact h
theorem jO{A B:Prop}(h:A):if true=true then A else B:=by
 rw[if_pos rfl];exact h
theorem ba{c A B:Prop}[Decidable c](h1:c→A)(h2:¬c→B):if c then A else B:=by
 by_cases h:c
 ·rw[HB h];exact h1 h
 ·rw[Dt h];exact h2 h
def av(H H':Hp):Prop:=∀b o,H b=some o→H' b=some o
theorem av.refl(H:Hp):av H H:=fun _ _ h=>h
theorem av.trans{H H1 H2:Hp}(a:av H H1)(b:av H1 H2):av H H2:=fun c o h=>b c o (a c o h)
theorem av.free{H H':Hp}(e:av H H'){l:Addr}(h:H' l=Option.none):H l=Option.none:=by
 cases q:H l with
 |none=>rfl
 |some o=>
  rw[e l o q]at h;cases h
theorem av.seq{K:PySem.W.Frag}{H H':Hp}{a:Addr}{xs:List V}(e:av H H')(h:il K H a xs):il K H' a xs:=by
 rcases h with(h|⟨o,h⟩)|h
 ·exact .inl (.inl (e _ _ h))
 ·exact .inl (.inr ⟨o,e _ _ h⟩)
 ·exact .inr h
section
variable{κ:Type}[DecidableEq κ]
theorem yz{kvs:List (κ×V)}{k:κ}(h:bu kvs k=none):¬k∈kvs.map (·.1):=by
 intro m;obtain⟨p,hp,e⟩:=Zt m;have q:(kvs.any fun kv=>decide (kv.1=k))=true:=List.any_eq_true.mpr ⟨p,hp,Zn e⟩;rw[h_,h]at q;exact Zy q
theorem Be{kvs:List (κ×V)}{k:κ}{v:V}(h:bu kvs k=some v):k∈kvs.map (·.1):=by
 have q:(kvs.any fun kv=>decide (kv.1=k))=true:=by
  rw[h_,h];all_goals rfl
 obtain⟨p,hp,e⟩:=List.any_eq_true.mp q;exact qV ⟨p,hp,of_decide_eq_true e⟩
end
end L2
namespace L2
open PySem PySem.Spec PyProof.Rows PySem.W
def dz(P:Program)(w:World):DZ:=fun outer H s E e s'=>
 ∃(ea:Addr)(cls a0:Value)(B:Heap)(H':Hp),e= .ref ea∧s'.os=s.os∧AllBare s'.gens∧Heap.FlyingW B outer ea cls a0 s'.heap∧
  Un (oa outer) [] H H' s.heap s'.heap∧lz P w H' B∧(∀b o,s.heap.get? b=some o→H b=none→b∉oa outer→B.get? b=some o)∧(∀b o,s.heap.get? b=some o→b∉oa outer→∃o',B.get? b=some o')∧E cls none H'
theorem aR{P:Program}{w:World}{X:Cx}:Passes (dz P w) X (fun _=>E0):=fun _ _ _ _ _ _ _ ⟨_,_,_,_,_,_,_,_,_,_,_,_,_,h⟩=>h.elim
structure P0(X:Cx)(E:St→XK):Prop where
 raise:∀(pins:List (Addr×Obj))(σ:St)(H:Hp)(s:Shared)(h':Heap)(e:Addr)(cls:Value)(args:List Value),Inv X pins σ H s→Heap.MadeExcOf s.heap h' e cls args→E σ cls none H→X.xe (.ref e) {s with heap:=h'}
 pass:Passes (dz X.prog X.w) X E
 own:PassesOwn (model X.prog X.w) X.A X.env X.xe
theorem lz.hide{P:Program}{w:World}{H:Hp}{h:Heap}{as:List Addr}(ok:lz P w H h)(hf:∀b∈as,H b=none):lz P w H (hideAll h as):=fun a o e=>
 (ok a o e).v9 (fun b u hb q=>hideAll_get _ q fun hm=>by
  rcases hb with rfl|hb
  ·rw[hf _ hm]at e;cases e
  ·rw[hf _ hm]at hb;cases hb) (fun b q=>q) fun b xs q=>q
section
variable{P:Program}{w:World}{K:PySem.W.Frag}{mg:Str→Option Value}{base:Heap}{N:List Str}{qual:Str}{scope:Scope}{f:Addr}{cd:Value}{A:Around}{outer:List Env}{s:Shared}{H:Hp}{E:XK}{cm:Bool}
theorem zV{P:Program}{w:World}{H:Hp}{h:Heap}{a:Addr}{o:HO}(x:cL P w H h a o):∃q,h.get? a=some q:=by
 cases o with
 |lst xs=>obtain⟨_,its,n,_,e⟩:=x;exact⟨_,e⟩
 |tup xs=>obtain⟨_,its,_,o,e,_⟩:=x;exact⟨_,e⟩
 |dK kvs=>obtain⟨_,_,vs,_,o,es,ep,e,_⟩:=x;exact⟨_,e⟩
 |dT kvs=>obtain⟨_,_,xs,_,o,es,ep,e,_⟩:=x;exact⟨_,e⟩
 |set S n=>obtain⟨o,es,ep,t,e,_⟩:=x;exact⟨_,e⟩
 |ins C dx fs=>obtain⟨_,_,_,e,_⟩:=x;exact⟨_,e⟩
 |own y=>exact x
 |xd fs=>obtain⟨mA,⟨o,es,ep,e,_⟩,_⟩:=x;exact⟨_,e⟩
 |met f y=>exact⟨_,x⟩
 |PK lo hi=>obtain⟨t,u,v,e⟩:=x;exact⟨_,e⟩
 |sj o u=>exact⟨_,x.1⟩
 |GF ps=>exact⟨_,x⟩
 |ext φ=>exact x.2.1
theorem Bf:P0 (zR (dz P w) cm P w K mg base N qual scope f cd A outer s H E) (fun _=>E):=by
 refine⟨?_,?_,PassesOwn.leaving⟩
 ·intro pins σ H1 s1 h' e cls args I hx hE;have RQ:(A.deeper (Zz qual scope f cd)).frames=some (envOfC qual scope s.heap.objs.size f cd::outer):=I.ok.frames;have vp:s1.heap.FunFrames base (envOfC qual scope s.heap.objs.size f cd::outer):=I.stack;have oe:∀env∈(envOfC qual scope s.heap.objs.size f cd::outer),∀b,env.frame=some b→b∈(envOfC qual scope s.heap.objs.size f cd::outer).filterMap (·.frame):=fun env he b hb=>List.mem_filterMap.mpr ⟨env,he,hb⟩
  have AZ:∀b∈(envOfC qual scope s.heap.objs.size f cd::outer).filterMap (·.frame),H1 b=none:=I.wb;show wpAny (model P w) (A.deeper (Zz qual scope f cd)) (leaving (Zz qual scope f cd) (.ref e)) (fun _ wk=>dz P w outer H s E (.ref e) wk) (fun e' wk=>dz P w outer H s E e' wk) {s1 with heap:=h'};have zW:∀b o,s.heap.get? b=some o→b∉oa outer→b∉(envOfC qual scope s.heap.objs.size f cd::outer).filterMap (·.frame):=fun b o q hb hm=>by
   obtain⟨env,he,hf⟩:=List.mem_filterMap.mp hm;rcases List.mem_cons.mp he with rfl|he
   ·have z:s.heap.objs.size=b:=Option.some.inj hf;exact V' (Y8 q) (by rw[z];exact Nat.lt_irrefl _)
   ·exact hb (List.mem_filterMap.mpr ⟨env,he,hf⟩)
  refine wpAny_leaves_madeW (s:={s1 with heap:=h'}) (h:=s1.heap) (base:=hideAll s1.heap ((envOfC qual scope s.heap.objs.size f cd::outer).filterMap (·.frame))) (L:=s.heap.objs.size) RQ rfl (fun b o q=>of_hideAll _ q) (funFrames_hide vp oe) hx fun h2 t x1 x2 x3 x4=>?_
  have bs:Un (oa outer) [] H H1 s.heap s1.heap:=I.base;have kB:∀b o,s.heap.get? b=some o→H b=none→b∉oa outer→(hideAll s1.heap ((envOfC qual scope s.heap.objs.size f cd::outer).filterMap (·.frame))).get? b=some o:=fun b o q hn hb=>
   hideAll_get _ (bs.keep b o q hn hb Mi) (zW b o q hb)
  have hB:lz P w H1 (hideAll s1.heap ((envOfC qual scope s.heap.objs.size f cd::outer).filterMap (·.frame))):=I.bU.hide AZ;refine⟨e,cls, .ref t,_,H1,rfl,I.os,I.bare,x1,?_,hB,kB,fun b o q hb=>?_,hE⟩
  rotate_left
  ·obtain⟨o',e1⟩:=bs.there b o q Mi;exact⟨o',hideAll_get _ e1 (zW b o q hb)⟩
  refine⟨fun b o q hn hb _=>x1.1 b o (kB b o q hn hb),fun b o q hn hb _=>?_,fun b o q hn _=>bs.free b o q hn Mi,fun b o q _=>?_,bs.cA,bs.oj,bs.rL⟩
  ·obtain⟨sl,e1⟩:=bs.slot b o q hn hb Mi;have IZ:s1.heap.FunFrames base outer:=vp.2.2;obtain⟨_,o2,e2,Hb⟩:=IZ.mem hb;rw[e1]at e2;cases e2;obtain⟨mR,e3⟩:=x4 b _ (hx.keeps _ _ e1) Hb;exact⟨mR,e3⟩
  ·cases q1:H1 b with
   |some u=>
    obtain⟨oo,z⟩:=zV (hB b u q1);exact⟨oo,x1.1 b oo z⟩
   |none=>
    cases q0:H b with
    |none=>
     by_cases hb:b∈oa outer
     ·obtain⟨sl,e1⟩:=bs.slot b o q q0 hb Mi;have IZ:s1.heap.FunFrames base outer:=vp.2.2;obtain⟨_,o2,e2,Hb⟩:=IZ.mem hb;rw[e1]at e2;cases e2;obtain⟨mR,e3⟩:=x4 b _ (hx.keeps _ _ e1) Hb;exact⟨_,e3⟩
     ·exact⟨o,x1.1 b o (kB b o q q0 hb)⟩
    |some u=>
     obtain⟨o',e1⟩:=bs.there b o q Mi;by_cases hb:b∈oa outer
     ·have IZ:s1.heap.FunFrames base outer:=vp.2.2;obtain⟨_,o2,e2,Hb⟩:=IZ.mem hb;obtain⟨mR,e3⟩:=x4 b _ (hx.keeps _ _ e2) Hb;exact⟨_,e3⟩
     ·exact⟨o',x1.1 b o' (hideAll_get _ e1 (zW b o q hb))⟩
 ·rintro pins σ H1 s1 e s2 I ⟨ea,cls,a0,B,H',rfl,os,bare,KP,un,hB,kB,tB,hE⟩;have RQ:(A.deeper (Zz qual scope f cd)).frames=some (envOfC qual scope s.heap.objs.size f cd::outer):=I.ok.frames;show wpAny (model P w) (A.deeper (Zz qual scope f cd)) (leaving (Zz qual scope f cd) (.ref ea)) (fun _ wk=>dz P w outer H s E (.ref ea) wk) (fun e' wk=>dz P w outer H s E e' wk) s2;have KP:Heap.FlyingW B (envOfC qual scope s.heap.objs.size f cd::outer) ea cls a0 s2.heap:=KP;have un:Un (oa (envOfC qual scope s.heap.objs.size f cd::outer)) [] H1 H' s1.heap s2.heap:=un;have kB:∀b o,s1.heap.get? b=some o→H1 b=none→b∉oa (envOfC qual scope s.heap.objs.size f cd::outer)→B.get? b=some o:=kB;have zW:∀b o,s.heap.get? b=some o→b∉oa outer→b∉oa (envOfC qual scope s.heap.objs.size f cd::outer):=fun b o q hb hm=>by
   obtain⟨env,he,hf⟩:=List.mem_filterMap.mp hm;rcases List.mem_cons.mp he with rfl|he
   ·have z:s.heap.objs.size=b:=Option.some.inj hf;exact V' (Y8 q) (by rw[z];exact Nat.lt_irrefl _)
   ·exact hb (List.mem_filterMap.mpr ⟨env,he,hf⟩)
  have RR:∀b,b∈oa outer→b∈oa (envOfC qual scope s.heap.objs.size f cd::outer):=fun b hb=>by
   obtain⟨env,he,hf⟩:=List.mem_filterMap.mp hb;exact List.mem_filterMap.mpr ⟨env,ZL he,hf⟩
  have bs:Un (oa outer) [] H H1 s.heap s1.heap:=I.base;refine wpAny_leaves_onW (L:=s.heap.objs.size) RQ rfl KP fun h2 x1 x4=>?_
  have UI:∀b o,s.heap.get? b=some o→H b=none→b∉oa outer→B.get? b=some o:=fun b o q hn hb=>kB b o (bs.keep b o q hn hb Mi) (bs.free b o q hn Mi) (zW b o q hb)
  have IZ:s2.heap.FunFrames B outer:=KP.2.2.1.2.2;refine⟨ea,cls,a0,B,H',rfl,os.trans I.os,bare,x1,?_,hB,UI,fun b o q hb=>?_,hE⟩
  rotate_left
  ·obtain⟨o',e1⟩:=bs.there b o q Mi;exact tB b o' e1 (zW b o q hb)
  refine⟨fun b o q hn hb _=>x1.1 b o (UI b o q hn hb),fun b o q hn hb _=>?_,fun b o q hn _=>?_,fun b o q _=>?_,fun b xs q=>un.cA b xs (bs.cA b xs q),fun b o u q=>un.oj b o u (bs.oj b o u q),fun b ps q=>?_⟩
  ·obtain⟨sl,e1⟩:=bs.slot b o q hn hb Mi;obtain⟨aat,e2⟩:=un.slot b _ e1 (bs.free b o q hn Mi) (RR b hb) (IM);obtain⟨_,o2,e3,Hb⟩:=IZ.mem hb;rw[e2]at e3;cases e3;obtain⟨mR,e4⟩:=x4 b _ e2 Hb;exact⟨mR,e4⟩
  ·by_cases hb:b∈oa outer
   ·obtain⟨sl,e1⟩:=bs.slot b o q hn hb Mi;exact un.free b _ e1 (bs.free b o q hn Mi) (IM)
   ·exact un.free b o (bs.keep b o q hn hb Mi) (bs.free b o q hn Mi) (IM)
  ·obtain⟨o',e1⟩:=bs.there b o q Mi;obtain⟨o2,e2⟩:=un.there b o' e1 Mi;by_cases hb:b∈oa outer
   ·obtain⟨_,o3,e3,Hb⟩:=IZ.mem hb;obtain⟨mR,e4⟩:=x4 b _ e3 Hb;exact⟨_,e4⟩
   ·obtain⟨o3,e3⟩:=tB b o' e1 (zW b o q hb);exact⟨o3,x1.1 b o3 e3⟩
  ·obtain⟨more,z⟩:=bs.rL b ps q;obtain⟨NV,z2⟩:=un.rL b _ z;exact⟨more++NV,by rw[z2,Array.append_assoc]⟩
end
end L2
namespace L2
open PySem PySem.Spec PyProof.Rows PySem.W PySem.Calls Builtin Builtin.ObjectAttr Builtin.Getset_descriptor
section
variable{prog:Program}{w:World}{A:Around}{E:Value→Shared→Prop}{K:Frag}{x C:Addr}{o:Obj}{hh:Heap}{g:Array GenState}{d:Drawn}{t:Nat}{os:OsState}
end
structure NW(K:Frag)(C:Addr):Prop where
 ex:excIn K C [.type "ValueError", .type "Exception", .type "BaseException", .type "object"] "ValueError.__new__"=true
 cl:findIn K (.ref C) "__class__"=some (some (.builtin "object.__class__"))
 ob:mroIn K C (.type "object")=some true
 be:mroIn K C (.type "BaseException")=some true
 ga:findIn K (.ref C) "__getattribute__"=some (some (.builtin "BaseException.__getattribute__"))
 gn:findIn K (.ref C) "__getattr__"=some none
 tu:instIn K (.ref C) (.type "tuple")=some false
 kp:keepIn K (.ref C)=true
end L2
namespace L2
open PySem PySem.Spec PyProof.Rows PySem.W PySem.Calls
theorem Hd{K:Frag}{h:Heap}{C:Addr}{UJ:List Value}{newId:String}(X:K.In h)(q:excIn K C UJ newId=true):
  ∃bm N nm qn bs hdct sn sub ab col dd k0 k1 k2 k3 k5 mN,h.get? C=some (excClassObj nm qn C N bs bm hdct sn sub ab col dd k0 k1 k2 k3 k5 newId)∧h.Ns N mN∧mN "__init__"=none∧OwnTail h UJ bm:=by
 unfold excIn at q;split at q
 ·rename_i dd cd sl ho
  split at q
  ·rename_i C' bm k0 k1 k2 k3 n k5 hm hs
   simp only[Bool.and_eq_true,beq_iff_eq,Bool.not_eq_true']at q;obtain⟨⟨⟨⟨⟨rfl,rfl⟩,NX⟩,ht⟩,bU⟩,P6⟩:=q;obtain⟨nm,bs,mro,ns,qn,hd,sn,sub,ab,col,del⟩:=cd;dsimp only at hm NX bU P6;subst hm NX;have RS:sl=#[k0,k1,k2,k3,some (.builtin n),k5]:=by
    obtain⟨l⟩:=sl;simp only at hs;rw[hs]
   subst RS;exact⟨bm,ns,nm,qn,bs,hd,sn,sub,ab,col,dd,k0,k1,k2,k3,k5,_,X _ _ ho, .of_isNs (isNs_of_in X bU),nsMap_none_of_in X bU P6,tail_of_in X ht⟩
  ·cases q
 ·cases q
section
variable{X:Cx}{x:Str}{np eD pos:Pos}{e:Expr}{es:List Expr}{t:TA}{C:Addr}{E:St→XK}
def KR(C:Addr)(E:St→XK)(t:TA):TS:=fun _ σ H=>t σ H fun vs H1=>vs.length≤sizeLine∧E σ (.ref C) none H1
theorem i8(hX:P0 X E)(hc:X.calm=true)(hg:Gl X x)(hm:X.mg x=some (.ref C))(c:NW X.K C)(ha:PA X (e::es) t)(wj:(x==("__debug__":Str))=false:=by decide)
  (he:starEach (e::es) X.env=(false,eval e X.env)::starEach es X.env:=by rfl) (ql:(kU eD).any (·.1)=false:=by rfl):
  PS X (.Raise (some (.Call (.Name x np) (e::es) [] eD)) none pos) (KR C E t):=by
 intro pins s σ H D I h;obtain⟨bm,N,nm,qn,bs,hdct,sn,sub,ab,col,dd,k0,k1,k2,k3,k5,mN,hC,hN,P6,T⟩:=Hd I.ok.mod.Ml c.ex;refine wpAny_Raise_call_subT (C:=C) (nm:=nm) (q:=qn) (N:=N) (bs:=bs) (bm:=bm) (hdct:=hdct) (sn:=sn) (sub:=sub) (ab:=ab) (col:=col) (dd:=dd) (k0:=k0) (k1:=k1) (k2:=k2) (k3:=k3) (k5:=k5)
  F.excBase_ValueError (mN:=mN) (T.hasType F.excBase_ValueError.hasBase) (I.ok.hd hc) (by rw[he];show(false||(kU eD).any (·.1))=false;rw[ql];rfl) P6 (om I hg hm ⟨rfl,?_⟩ wj)
 have hq:=cD (ha eD pins s σ H _ I h) fun us s2 ⟨vs,H2,I2,r2,q2⟩=>show us.length≤sizeLine∧(∀b o,X.base.get? b=some o→s2.heap.get? b=some o)∧∀h' e,Heap.MadeExcOf s2.heap h' e (.ref C) us→X.xe (.ref e) {s2 with heap:=h'}from
  ⟨by rw[←r2.length];exact q2.1,I2.bk,fun h' e hx=>hX.raise pins σ H2 s2 h' e (.ref C) us I2 hx q2.2⟩
 rw[he]at hq⊢;exact evalArgs_plain (wpAny_mono hq (fun vs s2 h2=>⟨rfl,h2.1,h2.2.1 _ _ hC,hN.keeps h2.2.1,T.keeps h2.2.1,h2.2.2⟩) fun _ _ y=>y)
end
section
variable{X:Cx}{e v1 v2:Expr}{es:List Expr}{te:TE}{pos:Pos}
def RT(te:TE):TE:=fun σ H Q=>te σ H fun x H1=>(∃y,x= .str y∧y.length≤sizeLine∧Q (.str y) H1)∨∃i:Int,x= .int i∧i.natAbs.log2<1920∧Q (.str (toString i)) H1
theorem qo(h:PE X e te):PE X (.FormattedValue e (-1) none pos) (RT te):=by
 intro pins s σ H Q I hq;refine FormattedValue_plain (cD (h pins s σ H _ I hq) fun u s1 ⟨x,H1,I1,r1,q1⟩=>?_);rcases q1 with⟨y,rfl,hy,q⟩|⟨i,rfl,hi,q⟩
 ·obtain⟨t,rfl⟩:=r1;exact formatField_str (fun t' tk=>⟨.str y,H1,I1.tok _,⟨_,rfl⟩,q⟩) hy
 ·obtain⟨t,rfl⟩:=r1;exact formatField_int_small hi ⟨.str (toString i),H1,I1.tok _,⟨_,rfl⟩,q⟩
abbrev TJ:=Str→TE
def PJ(X:Cx)(es:List Expr)(t:TJ):Prop:=
 ∀(acc:Str)(pins:List (Addr×Obj))(s:Shared)(σ:St)(H:Hp)(Q:VK),Inv X pins σ H s→t acc σ H Q→wpAny (model X.prog X.w) X.A (joinParts acc (evalEach es X.env)) (EP X pins σ Q) X.xe s
def NY:TJ:=fun acc _ H Q=>acc.length≤sizeLine∧Q (.str acc) H
def KS(te:TE)(t:TJ):TJ:=fun acc σ H Q=>te σ H fun x H1=>∃y,x= .str y∧(acc++y).length≤sizeLine∧t (acc++y) σ H1 Q
theorem wF:PJ X [] NY:=fun acc _ s σ H Q I h=>joinParts_nil ⟨.str acc,H,I.tok _,⟨_,rfl⟩,h.2⟩ h.1
theorem fq{t:TJ}(h1:PE X e te)(h2:PJ X es t):PJ X (e::es) (KS te t):=by
 intro acc pins s σ H Q I h;refine joinParts_cons (cD (h1 pins s σ H _ I h) fun u s1 ⟨x,H1,I1,r1,y,e,hl,q⟩=>?_);subst e;obtain⟨tk,rfl⟩:=r1;exact⟨hl,h2 _ pins s1 σ H1 Q I1 q⟩
theorem ma{t:TJ}(h:PJ X (v1::v2::es) t):PE X (.JoinedStr (v1::v2::es) pos) (t Str.empty):=fun pins s σ H Q I hq=>JoinedStr_many (h Str.empty pins s σ H Q I hq)
end
abbrev Cx.NZ(X:Cx)(e:Addr):Cx:={X with A:=X.A.mark (some (.ref e)),calm:=false,xe:=fun _ _=>False}
section
variable{X:Cx}{pins:List (Addr×Obj)}{σ:St}{H:Hp}{s:Shared}{ea C:Addr}{B:Heap}{a0:Value}
end
abbrev TH:=Addr→TS
def Ends.drop(D:Ends)(i:Nat):Ends:={nx:=fun σ H=>D.nx (σ.set i none) H,rt:=D.rt,bk:=fun σ H=>D.bk (σ.set i none) H,ct:=fun σ H=>D.ct (σ.set i none) H}
section
variable{X:Cx}{x n:Str}{np pos:Pos}{b0:Stmt}{NZ:List Stmt}{rest:List ExceptHandler}{ts:TS}{tr:TH}{Dc:Addr}{i:Nat}
end
def fN(env:Env):List (Str×NameKind)→List (Str×Addr)→List (Str×Addr)
 |[],acc=>acc
 |(n,k)::r,acc=>if k= .free then fN env r ((n,(env.cells.lookup n).getD 0)::acc)else fN env r acc
theorem wG{env:Env}{scope:Scope}(h:∀x∈scope.names,x.2= .free→∃c,env.cells.lookup x.1=some c):closureFor scope env=pure (fN env scope.names []):=by
 unfold closureFor
 suffices H:∀(l:List (Str×NameKind))(acc:List (Str×Addr)),(∀x∈l,x.2= .free→∃c,env.cells.lookup x.1=some c)→
   (forIn l acc fun(x:Str×NameKind)(cs:List (Str×Addr))=>if (x.2==NameKind.free)=true then do let c←cellOf env x.1;pure (ForInStep.yield ((x.1,c)::cs))else pure (ForInStep.yield cs):Sem (List (Str×Addr)))=pure (fN env l acc) by
  have:=H scope.names [] h;simpa using this
 intro l
 induction l with
 |nil=>intro acc _;rfl
 |cons x r ih=>
  intro acc hl;obtain⟨n,k⟩:=x;rw[List.forIn_cons];by_cases hk:k= .free
  ·subst hk;obtain⟨c,hc⟩:=hl (n, .free) List.mem_cons_self rfl;have J8:env.cells.lookup n=some c:=hc;simp only[beq_self_eq_true,if_true,cellOf,J8,fN,Option.getD_some];show(pure _>>=_)=_;rw[pure_bind];exact ih _ fun y hy=>hl y (ZL hy)
  ·have hb:(k==NameKind.free)=false:=by simpa using hk
   simp only[hb,Bool.false_eq_true,if_false,fN,hk];rw[pure_bind];exact ih _ fun y hy=>hl y (ZL hy)
theorem j4{env:Env}{x:Str}{c:Addr}:∀{l:List (Str×NameKind)}{acc:List (Str×Addr)},(∀y∈l,y.2= .free→∃c,env.cells.lookup y.1=some c)→
  (∀y d,acc.lookup y=some d→env.cells.lookup y=some d)→(fN env l acc).lookup x=some c→env.cells.lookup x=some c
 |[],acc,_,ha,h=>ha x c h
 |(n,k)::r,acc,hl,ha,h=>by
  unfold fN at h;have hr:∀y∈r,y.2= .free→∃c,env.cells.lookup y.1=some c:=fun y hy=>hl y (ZL hy)
  split at h
  ·rename_i hk
   obtain⟨d,hd⟩:=hl (n,k) List.mem_cons_self hk;refine j4 hr (fun y e he=>?_) h;rw[List.lookup_cons]at he;split at he
   ·rename_i q
    have q':y=n:=by simpa using q
    subst q';have zv:env.cells.lookup y=some d:=hd;rw[zv,Option.getD_some]at he;cases he;exact zv
   ·exact ha y e he
  ·exact j4 hr ha h
theorem oG{env:Env}{x:Str}:∀{l:List (Str×NameKind)}{acc:List (Str×Addr)},((x,NameKind.free)∈l∨∃c,acc.lookup x=some c)→∃c,(fN env l acc).lookup x=some c
 |[],acc,h=>by
  rcases h with h|h
  ·simp at h
  ·exact h
 |(n,k)::r,acc,h=>by
  unfold fN;split
  ·rename_i hk
   refine oG ?_;rcases h with h|⟨c,h⟩
   ·rcases List.mem_cons.mp h with e|e
    ·injection e with e1 e2;subst e1;exact .inr ⟨(env.cells.lookup x).getD 0,by simp[List.lookup_cons]⟩
    ·exact .inl e
   ·by_cases q:x=n
    ·subst q;exact .inr ⟨(env.cells.lookup x).getD 0,by simp[List.lookup_cons]⟩
    ·refine .inr ⟨c,?_⟩;rw[List.lookup_cons];have:(x==n)=false:=by simpa using q
     rw[this];exact h
  ·rename_i hk
   refine oG ?_;rcases h with h|h
   ·rcases List.mem_cons.mp h with e|e
    ·injection e with e1 e2;exact V' e2.symm hk
    ·exact .inl e
   ·exact .inr h
theorem oH{env:Env}{x:Str}:∀{names:List (Str×NameKind)},names.lookup x=some .free→
  (names.map fun(n,k)=>if (k==NameKind.free&&env.scope.kind== .function&&env.kindOf n==some .cell)then(n,NameKind.cell)else(n,k)).lookup x=some .cell∨
  (names.map fun(n,k)=>if (k==NameKind.free&&env.scope.kind== .function&&env.kindOf n==some .cell)then(n,NameKind.cell)else(n,k)).lookup x=some .free
 |[],h=>by simp at h
 |(n,k)::r,h=>by
  have ih:=@oH env x r;show List.lookup x ((if (k==NameKind.free&&env.scope.kind== .function&&env.kindOf n==some .cell)=true then(n,NameKind.cell)else(n,k))::_)=_∨List.lookup x ((if (k==NameKind.free&&env.scope.kind== .function&&env.kindOf n==some .cell)=true then(n,NameKind.cell)else(n,k))::_)=_;rw[List.lookup_cons]at h;by_cases hc:(k==NameKind.free&&env.scope.kind== .function&&env.kindOf n==some .cell)=true
  ·rw[HB hc,List.lookup_cons];cases hx:x==n with
   |true=>exact .inl rfl
   |false=>rw[hx]at h;exact ih h
  ·rw[Dt hc,List.lookup_cons];cases hx:x==n with
   |true=>rw[hx]at h;exact .inr h
   |false=>rw[hx]at h;exact ih h
theorem oI{env:Env}{x:Str}:∀{names:List (Str×NameKind)},(∀y∈names,y.2≠ .cell)→
  ((names.map fun(n,k)=>if (k==NameKind.free&&env.scope.kind== .function&&env.kindOf n==some .cell)then(n,NameKind.cell)else(n,k)).lookup x=some .cell∨
  (names.map fun(n,k)=>if (k==NameKind.free&&env.scope.kind== .function&&env.kindOf n==some .cell)then(n,NameKind.cell)else(n,k)).lookup x=some .free)→(x,NameKind.free)∈names
 |[],_,h=>by simp at h
 |(n,k)::r,hc,h=>by
  have ih:=@oI env x r fun y hy=>hc y (ZL hy)
  have h2:List.lookup x ((if (k==NameKind.free&&env.scope.kind== .function&&env.kindOf n==some .cell)=true then(n,NameKind.cell)else(n,k))::_)=_∨List.lookup x ((if (k==NameKind.free&&env.scope.kind== .function&&env.kindOf n==some .cell)=true then(n,NameKind.cell)else(n,k))::_)=_:=h;clear h;by_cases hq:(k==NameKind.free&&env.scope.kind== .function&&env.kindOf n==some .cell)=true
  ·rw[HB hq,List.lookup_cons]at h2;cases hx:x==n with
   |true=>
    have e:x=n:=by simpa using hx
    subst e;have hk:k= .free:=by
     rw[Bool.and_eq_true,Bool.and_eq_true]at hq;simpa using hq.1.1
    subst hk;exact List.mem_cons_self
   |false=>rw[hx]at h2;exact ZL (ih h2)
  ·rw[Dt hq,List.lookup_cons]at h2;cases hx:x==n with
   |true=>
    rw[hx]at h2;have e:x=n:=by simpa using hx
    subst e;rcases h2 with h|h
    ·have h':some k=some NameKind.cell:=h;exact V' (WK h') (hc (x,k) List.mem_cons_self)
    ·have h':some k=some NameKind.free:=h;rw[WK h'];exact List.mem_cons_self
   |false=>rw[hx]at h2;exact ZL (ih h2)
def f6(X:Cx)(scope:Scope)(N:List Str)(dA:Shared)(eU:Hp)(C:Addr)(fp:List Addr)(pn:List (Addr×Obj)):Cx:=
 {X with N:=N,dA:=dA,eU:=eU,env:=compEnvC scope (fN X.env scope.names []) C X.env,outer:=X.stack,ex:=fp,fn:=fun _=>false,pn:=pn,xe:=fun _ _=>False}
structure bh(N:List Str)(sc:Scope)(scope:Scope)(ls:List Str)(js:List Nat)(cs:List Str):Prop where
 kind:scope.kind= .function
 I0:∀x∈scope.names,x.2≠ .cell
 names:∀x∈scope.names,x.2= .local→scope.names.lookup x.1=some .local
 loc:∀x∈ls,scope.names.lookup x=some .local
 at_:cs=js.filterMap (N[·]?)
 len:cs.length=js.length
 RU:∀x∈cs,scope.names.lookup x=some .free∧(sc.names.lookup x=some .cell∨sc.names.lookup x=some .free)
 free:∀x∈scope.names,x.2= .free→(sc.names.lookup x.1=some .cell∨sc.names.lookup x.1=some .free)
 nd:(ls++cs).Nodup
section
variable{X:Cx}{pins:List (Addr×Obj)}{σ:St}{H:Hp}{s:Shared}{scope:Scope}{ls cs:List Str}{js:List Nat}{fp:List Addr}
theorem bh.has(S:bh X.N X.env.scope scope ls js cs)(ok:X.Ok):∀x∈scope.names,x.2= .free→∃c,X.env.cells.lookup x.1=some c:=fun x hx hf=>ok.has x.1 (S.free x hx hf)
def lD(ls:List Str)(js:List Nat)(σ:St):St:=ls.map (fun _=>none)++js.map fun j=>(σ[j]?).join
theorem He(S:bh X.N X.env.scope scope ls js cs)(I:Inv X pins σ H s)(hf:∀b∈fp,ir X pins H b)(hl:∀b∈fp,b<s.heap.objs.size):(f6 X scope (ls++cs) s H s.heap.objs.size fp (X.pn++pins)).Ok:=by
 have sX:∀{x:Str}{c:Addr},(fN X.env scope.names []).lookup x=some c→X.env.cells.lookup x=some c:=fun{x c} h=>j4 (S.has I.ok) (fun y d h=>by simp at h) h
 refine⟨I.ok.mod,S.kind,I.ok.glob,I.ok.blt,Nat.le_refl _,fun x y c h1 h2=>I.ok.inj x y c (sX h1) (sX h2),fun x h=>oG (.inl (oI S.I0 h)),(fun x c h=>Bool.noConfusion (show false=true from h)),I.ok.hd,I.ok.frames, .inl rfl,fun b hb=>⟨ZM (hl b hb),fun x c h=>(hf b hb).2.2.2.2.1 x c (sX h)⟩,
  I.bs,ZN I.ok.J5 I.sz,fun b o e hb=>?_,fun b hb hm=>?_,I.stack,I.wb⟩
 ·rcases(hf b hb).2.2.2.1 with z|z
  ·exact I.ok.J6 b o e z
  ·exact V' (Zu (Y8 e) I.ok.J5) (Nat.not_lt.mpr z)
 ·rcases List.mem_cons.mp (I.sO b hm)with z|z
  ·exact(hf b hb).2.1 z
  ·exact(hf b hb).2.2.1 z
theorem Ek{h1:Heap}{m:Str→Option Value}(S:bh X.N X.env.scope scope ls js cs)(I:Inv X pins σ H s)(hf:∀b∈fp,ir X pins H b)(hl:∀b∈fp,b<s.heap.objs.size)
  (hn:h1.Ns s.heap.objs.size m) (hk:∀b o,s.heap.get? b=some o→h1.get? b=some o):
  Inv (f6 X scope (ls++cs) s H s.heap.objs.size fp (X.pn++pins)) [] (lD ls js σ) H {s with heap:=h1}:=by
 have sX:∀{x:Str}{c:Addr},(fN X.env scope.names []).lookup x=some c→X.env.cells.lookup x=some c:=fun{x c} h=>j4 (S.has I.ok) (fun y d h=>by simp at h) h
 have len:(lD ls js σ).length=(ls++cs).length:=by
  unfold lD;rw[List.length_append,List.length_append,List.length_map,List.length_map,S.len]
 refine⟨He S I hf hl,rfl,I.bare,Un.kept hk,⟨m,hn,fun i x v e1 e2 e3=>?_⟩,fun x c e=>?_,I.bU.fresh YH,fun x c e=>I.mO x c (sX e),fun p hp=>?_,I.bU.kept hk,len⟩
 ·have e1:(ls++cs)[i]?=some x:=e1;unfold lD at e2;by_cases hi:i<ls.length
  ·rw[ZA (by simpa using hi),List.getElem?_map]at e2;cases q:ls[i]? with
   |none=>rw[q]at e2;cases e2
   |some y=>rw[q]at e2;cases e2
  ·have sq:ls.length≤i:=Nat.not_lt.mp hi;rw[ZF (by simpa using sq),List.getElem?_map,List.length_map]at e2;rw[ZF sq]at e1;obtain⟨UK,qc⟩:=S.RU x (WI e1);cases q:js[i-ls.length]? with
   |none=>rw[q]at e2;cases e2
   |some j=>
    rw[q]at e2;have e2:(σ[j]?).join=some v:=WK e2;have eN:X.N[j]?=some x:=by
     have aux:∀(js:List Nat)(cs:List Str)(i:Nat),cs=js.filterMap (X.N[·]?)→cs.length=js.length→∀j x,js[i]?=some j→cs[i]?=some x→X.N[j]?=some x:=by
      intro js
      induction js with
      |nil=>intro cs i _ _ j x hj _;simp at hj
      |cons a r ih=>
       intro cs i he hl j x hj hx;rw[List.filterMap_cons]at he;cases qa:X.N[a]? with
       |none=>
        rw[qa]at he;have hle:=List.length_filterMap_le (X.N[·]?) r;simp only at he;rw[he,List.length_cons]at hl
        lia
       |some y=>
        rw[qa]at he;simp only at he;subst he;cases i with
        |zero=>
         simp at hj hx;subst hj hx;exact qa
        |succ i=>exact ih _ i rfl (by simpa using hl) j x (by simpa using hj) (by simpa using hx)
     exact aux js cs _ S.at_ S.len j x q e1
    obtain⟨mX,_,WM⟩:=I.loc;have WN:σ[j]?=some (some v):=by
     cases z:σ[j]? with
     |none=>rw[z]at e2;cases e2
     |some w=>rw[z]at e2;rw[show w=some v from e2]
    obtain⟨u,r,l⟩:=WM j x v eN WN (qc.elim (fun z=> .inr (.inl z)) fun z=> .inr (.inr z));refine⟨u,r,?_⟩;rcases l with⟨z,_⟩|⟨_,c,z1,o,z2,z3⟩
    ·have z:X.env.scope.names.lookup x=some .local:=z;rcases qc with w|w<;>(rw[z]at w;cases w)
    ·refine .inr ⟨oH UK,c,?_,o,hk c o z2,z3⟩;obtain⟨c',J8⟩:=oG (env:=X.env) (l:=scope.names) (acc:=[]) (x:=x) (.inl (PySem.mem_of_lookup UK));have:=sX J8;rw[z1]at this;cases this;exact J8
 ·obtain⟨v,o,z1,z2⟩:=I.cell x c (sX e);exact⟨v,o,hk c o z1,z2⟩
 ·have hp:p∈X.pn++pins:=by simpa[f6]using hp
  obtain⟨e,n,ne,nf,d⟩:=I.pin p hp;refine⟨hk _ _ e,n,ZM (Y8 e),fun hm=>?_,d⟩;rcases List.mem_cons.mp (I.sO p.1 hm)with z|z
  ·exact ne z
  ·exact nf z
end
section
variable{prog:Program}{w:World}{A:Around}{R:Result→Shared→Prop}{s:Shared}
theorem wH{elt target iter:Expr}{ifs:List Expr}{scope:Scope}{pos:Pos}{it acc:Value}{env:Env}(L:Nat→Shared→Prop)
  (turn:∀n s,L n s→wpAny (model prog w) A (pyNext it) (fun r cf=>match r with
   |none=>R (.ok .next) cf
   |some v=>wpAny (model prog w) A (letOwnedTupleGo target it v) (fun _ I_=>wpAny (model prog w) A (assign target env v) (fun _ qf=>
     wpAny (model prog w) A (forIn ifs true fun c r=>if r=true then do let ok←isTrue c env (eval c env);pure (ForInStep.yield ok)else pure (ForInStep.yield r)) (fun ok Ck=>
      if ok=true then wpAny (model prog w) A (eval elt env) (fun x N0=>
       wpAny (model prog w) A (call (.builtin "list.append") [acc,x]) (fun _ N1=>∃m,m<n∧L m N1) (fun _ _=>False) N0) (fun _ _=>False) Ck
      else ∃m,m<n∧L m Ck) (fun _ _=>False) qf) (fun _ _=>False) I_) (fun _ _=>False) cf) (fun _ _=>False) s)
  (n:Nat) (h:L n s):codeAny (model prog w) A (.compLoop (.ListComp elt [⟨target,iter,ifs,0⟩] scope pos) 0 it acc env) R s:=by
 refine codeAny_loop rfl L (fun n s hI=>?_) n h;show wpAny _ A ((compTurn (.ListComp elt [⟨target,iter,ifs,0⟩] scope pos) 0 it acc env).onRaise (fun x=>do noteFrame x env;theTreesLotGoes x)) _ _ s;refine wpAny_noted ?_;rw[compTurn_list];refine wpAny_mono (E:=fun _ _=>False) ?_ (fun _ _ q=>q) fun _ _ z=>False.elim z
 refine wpAny_bind (wpAny_standAt (Xz (wpAny_mono (turn n s hI) (fun r cf Cj=>?_) fun _ _ h'=>h')));cases r with
 |none=>exact W0 Cj
 |some v=>
  refine wpAny_bind (wpAny_mono Cj (fun _ I_ Cj=>?_) fun _ _ h'=>h');refine wpAny_bind (wpAny_mono Cj (fun _ qf D5=>Xz (wpAny_mono D5 (fun ok Ck GY=>?_) fun _ _ h'=>h')) fun _ _ h'=>h');cases ok with
  |false=>exact W0 ⟨rfl,GY⟩
  |true=>
   exact Xz (Xz (wpAny_mono GY (fun x N0 RV=>Xz (wpAny_mono RV (fun _ N1 RW=>W0 (W0 ⟨rfl,RW⟩)) fun _ _ h'=>h')) fun _ _ h'=>h'))
end
def N2(X:Cx)(ifs:List Expr)(t:TT):Prop:=
 ∀(pins:List (Addr×Obj))(s:Shared)(σ:St)(H:Hp)(Q:Bool→Hp→Prop),Inv X pins σ H s→t σ H Q→
  wpAny (model X.prog X.w) X.A (forIn ifs true fun c r=>if r=true then do let ok←isTrue c X.env (eval c X.env);pure (ForInStep.yield ok)else pure (ForInStep.yield r)) (TP X pins σ Q) X.xe s
def KU:TT:=fun _ H Q=>Q true H
theorem f7{X:Cx}:N2 X [] KU:=fun _ _ _ H _ I h=>wpAny_tests_nil ⟨H,I,h⟩
theorem Bg{X:Cx}{c:Expr}{t:TT}(h:PT X c t):N2 X [c] t:=fun pins s σ H Q I hq=>wpAny_tests_one (h pins s σ H Q I hq)
def sY(J:It)(ls:List Str)(js:List Nat)(g:TG)(tt:TT)(te:TE)(σ:St)(H1:Hp)(D:Addr)(Q:VK):Prop:=
 ∃W:Nat→Nat→List V→St→Hp→Prop,(∃m,W 0 m [] (lD ls js σ) (upd H1 D (.lst [])))∧∀i m ys bx H',W i m ys bx H'→
 (J.stop i H'∧Q (.ref D) H')∨(J.go i H'∧∃N:List V→St→Hp→Prop,(∀Ja fA H2,N Ja fA H2→∃m',m'<m∧W (i+1) m' Ja fA H2)∧∀x H2,J.GI i H' x H2→g x bx H2 fun fA H3=>tt fA H3 fun b H4=>
  if b=true then te fA H4 fun y H5=>H5 D=some (.lst ys)∧ys.length<sizeLine∧N (ys++[y]) fA (upd H5 D (.lst (ys++[y])))else N ys fA H4)
def El(wi:TI)(ls:List Str)(js:List Nat)(g:TG)(tt:TT)(te:TE):TE:=fun σ H Q=>wi σ H fun J H1=>∀D,H1 D=none→sY J ls js g tt te σ H1 D Q
section
variable{X:Cx}{tg iter elt:Expr}{ifs:List Expr}{scope:Scope}{pos:Pos}{wi:TI}{g:TG}{tt:TT}{te:TE}{ls cs:List Str}{js:List Nat}
theorem vH{pins:List (Addr×Obj)}{s:Shared}{σ:St}{H:Hp}{Q:VK}{use:Option (Value→Sem Unit)}{QQ:Value→Shared→Prop}(hc:X.calm=true)(S:bh X.N X.env.scope scope ls js cs)(hi:PI X tg iter wi)
  (hg:∀dA eU C fp pn,PG Ρ tg g) (ht:∀dA eU C fp pn,N2 Ρ ifs tt) (he:∀dA eU C fp pn,PE Ρ elt te)
  (I:Inv X pins σ H s) (h:El wi ls js g tt te σ H Q)
  (RX:∀(D C:Addr)(H':Hp)(s':Shared)(m:Str→Option Value),Inv X pins σ H' s'→Q (.ref D) H'→s'.heap.Ns C m→ir X pins H' C→compPost (model X.prog X.w) X.A X.xe use QQ (.ref D) C (.ok .next) s')
  (hs:∀x,foldedSetIterable iter X.env x=pure x:=by intro _;rfl):
  wpAny (model X.prog X.w) X.A (comprehension (.ListComp elt [⟨tg,iter,ifs,0⟩] scope pos) scope X.env (firstIterPos [⟨tg,iter,ifs,0⟩] pos) (newList []) false (eval iter X.env) use) QQ X.xe s:=by
 refine wpAny_comprehension_free rfl hs (wG (S.has I.ok)) S.kind S.names (cD (hi pins s σ H _ I h) fun v s1 h1=>cD h1 fun Rr s2 h2=>?_);obtain⟨it,fp,tn,J,H2,rfl,I2,T,dP,f2,hW⟩:=h2;have UL:∀b∈fp,b<s2.heap.objs.size:=fun b hb=>by
  obtain⟨o,e,_⟩:=T.obj 0 _ dP b hb;exact Y8 e
 refine wpAny_newObj_type ?_;have hD:H2 s2.heap.objs.size=none:=I2.bU.fresh YH;obtain⟨W,⟨m0,w0⟩,turn⟩:=hW _ hD;have I3:Inv X pins σ (upd H2 s2.heap.objs.size (.lst [])) {s2 with heap:=s2.heap.push {cls:= .type "list",dict:=none,data:= .seq ([]:List Value).toArray}}:=
  I2.laid (t':=s2.toks) (fun b u e=>YG e) (Nat.le_refl _) ⟨Nat.zero_le _,[],0, .nil,Heap.get?_push_size _ rfl⟩
 have f3:∀b∈fp,ir X pins (upd H2 s2.heap.objs.size (.lst [])) b:=fun b hb=>⟨by rw[aj (ZM (UL b hb))];exact(f2 b hb).1,(f2 b hb).2⟩
 generalize abL:upd H2 s2.heap.objs.size (.lst [])=H3 at I3 f3 w0;generalize N3:({s2 with heap:=s2.heap.push {cls:= .type "list",dict:=none,data:= .seq ([]:List Value).toArray}}:Shared)=s3 at I3;have UM:∀b∈fp,b<s3.heap.objs.size:=fun b hb=>by
  rw[←N3];show b<(s2.heap.push _).objs.size;rw[Heap.size_push];exact Nat.lt_succ_of_lt (UL b hb)
 have DR:tn 0 s3.heap:=T.keep 0 _ _ dP fun b hb o e=>by rw[←N3];exact YG e
 refine wpAny_newFunctionEnv S.I0 (by intro y hy;simp at hy) (fun h4 PY N4=>?_) S.kind;have k4:∀b o,s3.heap.get? b=some o→h4.get? b=some o:=fun b o e=>N4.extBut b o (ZM (Y8 e)) (YG e)
 have I4:=Ek (h1:=h4) S I3 f3 UM PY k4;have WO:=I4.tok (s3.toks+([]:List (Str×Value)).length);have P7:tn 0 h4:=T.keep 0 _ _ DR fun b hb o e=>k4 b o e
 show codeAny (model X.prog X.w) X.A (.compStart (.ListComp elt [⟨tg,iter,ifs,0⟩] scope pos) 0 (.ref it) (.ref s2.heap.objs.size) (compEnvC scope (fN X.env scope.names []) s3.heap.objs.size X.env)) (compPost (model X.prog X.w) X.A X.xe use QQ (.ref s2.heap.objs.size) s3.heap.objs.size) _;have zJ:∀{H':Hp},(∀b∈fp,H' b=none)→∀b∈fp,ir γ [] H' b:=fun{H'} hn b hb=>by
  obtain⟨q1,q2,q3,q4,q5,q6⟩:=f3 b hb;refine⟨hn b hb,ZM (UM b hb),fun hm=>?_, .inl hb,fun x c e=>q5 x c (j4 (S.has I.ok) (fun y d z=>by simp at z) e),fun p hp=>q6 p (by simpa[f6]using hp)⟩;rcases List.mem_cons.mp (I3.sO b hm)with z|z
  ·exact q2 z
  ·exact q3 z
 have loop:codeAny (model X.prog X.w) X.A (.compLoop (.ListComp elt [⟨tg,iter,ifs,0⟩] scope pos) 0 (.ref it) (.ref s2.heap.objs.size) (compEnvC scope (fN X.env scope.names []) s3.heap.objs.size X.env)) (compPost (model X.prog X.w) X.A X.xe use QQ (.ref s2.heap.objs.size) s3.heap.objs.size)
   {s3 with heap:=h4,toks:=s3.toks+([]:List (Str×Value)).length}:=by
  refine wH (fun n s'=>∃i bx H',Inv γ [] bx H' s'∧tn i s'.heap∧(∀b∈fp,H' b=none)∧∃ys,W i n ys bx H') ?_ m0 ⟨0,_,_,WO,P7,fun b hb=>(f3 b hb).1,[],w0⟩;rintro n s5 ⟨i,P8,H5,I5,Mp,PR,ys,w5⟩;rcases turn i n ys P8 H5 w5 with⟨stop,qn⟩|⟨go,N,hN,step⟩
  ·refine cD (T.done γ rfl rfl rfl hc i [] s5 P8 H5 (fun _ _=>False) I5 (zJ PR) Mp stop) fun r s6 ⟨hr,I6⟩=>?_
   subst hr;obtain⟨m,hm,_⟩:=id I6.loc;have un:Un (oa X.stack) fp H3 H5 s3.heap s6.heap:=I6.base;have I7:Inv X pins σ H5 s6:=I3.Nj (ch:=fp) I6.os un I6.bU I6.bare fun b hb=>by
    obtain⟨q1,q2,q3,q4,q5,q6⟩:=f3 b hb;exact⟨q4,q2,q5,q6⟩
   have fc:ir X pins H5 s3.heap.objs.size:=I3.uF YH I6.free;exact RX _ _ H5 s6 m I7 qn hm fc
  ·refine cD (T.item γ rfl rfl rfl hc i [] s5 P8 H5 (fun _ _=>False) I5 (zJ PR) Mp go) fun r s6 ⟨u,hr,h6⟩=>?_
   subst hr;refine cD h6 fun _ s7 ⟨x,H7,I7,r7,y7,RY,WQ⟩=>?_
   have aaJ:=I7.pinned (zJ WQ) (T.obj _ _ RY);refine cD (hg _ _ _ _ _ _ s7 P8 H7 x u _ aaJ r7 (step x H7 y7)) fun _ s8 ⟨P_,H8,I8,q8⟩=>?_
   refine cD (ht _ _ _ _ _ _ s8 P_ H8 _ I8 q8) fun b s9 ⟨H9,I9,q9⟩=>?_
   have again:∀{Ja:List V}{bx:St}{H':Hp}{s':Shared},Inv γ ([]++sQ fp s7.heap) bx H' s'→N Ja bx H'→
     ∃m,m<n∧∃i bx H',Inv γ [] bx H' s'∧tn i s'.heap∧(∀b∈fp,H' b=none)∧∃ys,W i m ys bx H':=fun{Ja bx H' s'} I' n'=>by
    obtain⟨m',Cq,w'⟩:=hN Ja bx H' n';refine⟨m',Cq,i+1,bx,H',I'.lC,T.keep _ _ _ RY fun b hb o e=>(I'.pin (b,o) (ZI (ZI (gK hb e)))).1,fun b hb=>?_,Ja,w'⟩;obtain⟨o,e,d⟩:=T.obj _ _ RY b hb;exact(I'.pin (b,o) (ZI (ZI (gK hb e)))).2.1
   cases b with
   |false=>exact again I9 q9
   |true=>
    refine cD (he _ _ _ _ _ _ s9 P_ H9 _ I9 q9) fun u2 WS ⟨y,WT,WU,WV,WW,hz,WX⟩=>?_
    refine cD (bR _ WS P_ WT (.ref s2.heap.objs.size) [y] (.ref s2.heap.objs.size) [u2] (fun _ H'=>N (ys++[y]) P_ H') WU rfl (.cons WV .nil) ⟨_,ys,y,rfl,rfl,WW,hz,WX⟩) fun _ aar ⟨_,abO,WY,_,WZ⟩=>?_
    exact again WY WZ
 exact codeAny_compStart_list loop (T.self _ 0 _ _ _ P7 loop)
theorem jo(hc:X.calm=true)(S:bh X.N X.env.scope scope ls js cs)(hi:PI X tg iter wi)
  (hg:∀dA eU C fp pn,PG Ρ tg g) (ht:∀dA eU C fp pn,N2 Ρ ifs tt) (he:∀dA eU C fp pn,PE Ρ elt te)
  (hs:∀x,foldedSetIterable iter X.env x=pure x:=by intro _;rfl):PE X (.ListComp elt [⟨tg,iter,ifs,0⟩] scope pos) (El wi ls js g tt te):=by
 intro pins s σ H Q I h;rw[eval_ListComp];refine vH (use:=none) hc S hi hg ht he I h (fun D C H' s' m I' q hm fc=>⟨m,hm,fun h' N4=>?_⟩) hs;obtain⟨q1,q2,q3,q4,q5,q6⟩:=fc;exact⟨.ref D,H',I'.turned (t':=s'.toks) (fun b o hb e=>N4.extBut b o hb e) q1 (WR (WR q2)) q4 q5 q6,rfl,q⟩
theorem oJ{x:Str}{i:Nat}{pos' N5:Pos}(hc:X.calm=true)(hN:X.N.Nodup)(sq:X.N[i]?=some x)(hx:X.env.scope.names.lookup x=some .local)(S:bh X.N X.env.scope scope ls js cs)(hi:PI X tg iter wi)
  (hg:∀dA eU C fp pn,PG Ρ tg g) (ht:∀dA eU C fp pn,N2 Ρ ifs tt) (he:∀dA eU C fp pn,PE Ρ elt te)
  (RZ:swapsWith (.ListComp elt [⟨tg,iter,ifs,0⟩] scope pos) (some (.Name x pos')) N5.line X.env=pure true:=by rfl)
  (hs:∀x,foldedSetIterable iter X.env x=pure x:=by intro _;rfl):PS X (.Assign [.Name x pos'] (.ListComp elt [⟨tg,iter,ifs,0⟩] scope pos) N5) (Ke (El wi ls js g tt te) (A3 i)):=by
 intro pins s σ H D I h;rw[exec_Assign_Name_used _ _ _ _ RZ];refine wpAny_bind (wpAny_standAt (Xz ?_));show wpAny _ X.A (do let _←comprehension (.ListComp elt [⟨tg,iter,ifs,0⟩] scope pos) scope X.env (firstIterPos [⟨tg,iter,ifs,0⟩] pos) (newList []) false (eval iter X.env) (some (assign (.Name x pos') X.env))) _ _ s;refine wpAny_bind (wpAny_mono (vH (use:=some (assign (.Name x pos') X.env)) (QQ:=fun _ s'=>SP X pins D .next s') hc S hi hg ht he I h (fun Dl C H' s' m I' q hm fc=>?_) hs) (fun _ s' hq=>W0 (W0 hq)) fun _ _ e=>e);show wpAny _ X.A (assign (.Name x pos') X.env (.ref Dl)) _ _ _;obtain⟨q1,q2,q3,q4,q5,q6⟩:=fc;refine wpAny_assign_Name (vo (v:= .ref Dl) I' hN sq (.inl hx) rfl (fun s2 I2 ⟨a,N4,ha⟩=>?_) (.inr hx));have cG:C≠a:=by
  rcases ha with rfl|ha
  ·exact q2
  ·exact fun z=>q5 x a ha z.symm
 refine⟨m,hm.sameBut N4 cG,fun h' R0=>?_⟩;exact⟨_,H',I2.turned (t':=s2.toks) (fun b o hb e=>R0.extBut b o hb e) q1 q2 q4 q5 q6,q⟩
end
def Qa(z:Str):It:=⟨fun i _=>i<z.length,fun i H x H'=>H'=H∧∃c,z.cps.toList[i]?=some c∧x= .str ⟨#[c]⟩,fun i _=>z.length≤i⟩
theorem Em{P:Program}{w:World}{K:Frag}{tg:Expr}{it:Addr}{z:Str}{ty:String}{t:Tok}(Dv:ty="str_ascii_iterator"∨ty="str_iterator"):Turn P w K tg (Qa z) [it] it (fun i h=>h.IsStrIter it ty z t i) where
 mem:=IM
 obj:=fun i h st b hb=>by
  have e:b=it:=by simpa using hb
  subst e;obtain⟨o,e,c,d⟩:=st;exact⟨o,e,fun v z=>by rw[d]at z;cases z⟩
 keep:=fun i h h' st k=>let ⟨o,ho,r⟩:=st;⟨o,k it (IM) o ho,r⟩
 item:=by
  intro X hP hw hK hc i pins s σ H E I hf st hg;subst hP hw hK;obtain⟨f0,f1,f2,f3,f4,f5⟩:=hf it (IM);have hg:i<z.cps.size:=hg;have key:∀h',h'.IsStrIter it ty z t (i+1)→Heap.SameBut it s.heap h'→∃u,some (Value.str ⟨#[z.cps[i]]⟩ s.toks)=some u∧
    wpAny (model X.prog X.w) X.A (letOwnedTupleGo tg (.ref it) u) (fun _ s2=>∃x H',Inv X pins σ H' s2∧RelV x u∧(Qa z).GI i H x H'∧s2.heap.IsStrIter it ty z t (i+1)∧∀b∈[it],H' b=none) E {s with heap:=h',toks:=s.toks+1}:=fun h' aT sb=>by
   have I1:Inv X pins σ H {s with heap:=h',toks:=s.toks+1}:=I.turned (fun b o hb e=>(sb.2 b hb).trans e) f0 f1 f3 f4 f5;obtain⟨o,e,c,d⟩:=id aT;refine⟨_,rfl,yn (s:={s with heap:=h',toks:=s.toks+1}) e c d (by rcases Dv with rfl|rfl<;>decide) ⟨.str ⟨#[z.cps[i]]⟩,H,I1,⟨_,rfl⟩,⟨rfl,z.cps[i],by simp[hg],rfl⟩,aT,fun b hb=>(hf b hb).1⟩⟩
  rcases Dv with rfl|rfl
  ·exact wpAny_pyNext_ascii_item st (c:=z.cps[i]) (by simp[hg]) key
  ·exact wpAny_pyNext_wide_item st (c:=z.cps[i]) (by simp[hg]) key
 done:=by
  intro X hP hw hK hc i pins s σ H E I hf st hg;subst hP hw hK;obtain⟨f0,f1,f2,f3,f4,f5⟩:=hf it (IM);have hg:z.cps.size≤i:=hg;rcases Dv with rfl|rfl
  ·exact wpAny_pyNext_ascii_end (I.ok.hd hc) st (by simp[hg]) fun h' eb=>⟨rfl,I.turned (t':=s.toks) (fun b o hb e=>eb b o hb e) f0 f1 f3 f4 f5⟩
  ·exact wpAny_pyNext_wide_end (I.ok.hd hc) st (by simp[hg]) fun h' eb=>⟨rfl,I.turned (t':=s.toks) (fun b o hb e=>eb b o hb e) f0 f1 f3 f4 f5⟩
 self:=fun _ _ _ _ _ st h=>by
  rcases Dv with rfl|rfl
  ·exact wpAny_pyIter_striter_ascii st h
  ·exact wpAny_pyIter_striter_wide st h
section
variable{X:Cx}{tg:Expr}
def R1(tl:TE):TI:=fun σ H R=>tl σ H fun x H1=>∃z,x= .str z∧R (Qa z) H1
theorem KW{l:Expr}{tl:TE}(hl:PE X l tl):PI X tg l (R1 tl):=by
 intro pins s σ H R I h;refine cD (hl pins s σ H _ I h) fun v s1 ⟨x,H1,I1,r1,q1⟩=>?_
 obtain⟨z,e,q⟩:=q1;subst e;obtain⟨t,rfl⟩:=r1;refine wpAny_pyIter_strU ?_;refine⟨s1.heap.objs.size,[s1.heap.objs.size],_,_,H1,rfl,I1.kept (t':=s1.toks) fun b o e=>YG e,Em (ty:=strIterType z) (t:=t) (by unfold strIterType;split<;>simp),⟨_,Heap.get?_push_size _ rfl,rfl,rfl⟩,fun b hb=>?_,q⟩;have e:b=s1.heap.objs.size:=by simpa using hb
 subst e;exact I1.uF YH (I1.bU.fresh YH)
end
theorem oK{J:It}{n:Nat}{ls:List Str}{js:List Nat}{g:TG}{tt:TT}{te:TE}{σ:St}{H1:Hp}{D:Addr}{Q:VK}(Pv:Nat→List V→St→Hp→Prop)
  (h0:Pv 0 [] (lD ls js σ) (upd H1 D (.lst []))) (Hf:∀i ys σ H,i<n→Pv i ys σ H→J.go i H) (vp:∀ys σ H,Pv n ys σ H→J.stop n H)
  (hs:∀i ys σ H x H2,i<n→Pv i ys σ H→J.GI i H x H2→g x σ H2 fun fA H3=>tt fA H3 fun b H4=>if b=true then te fA H4 fun y H5=>H5 D=some (.lst ys)∧ys.length<sizeLine∧Pv (i+1) (ys++[y]) fA (upd H5 D (.lst (ys++[y])))else Pv (i+1) ys fA H4)
  (hd:∀ys σ H,Pv n ys σ H→Q (.ref D) H):
  sY J ls js g tt te σ H1 D Q:=by
 refine⟨fun i m ys σ H=>m=n-i∧i≤n∧Pv i ys σ H,⟨n,IM,Nat.zero_le _,h0⟩,?_⟩;rintro i m ys σ H ⟨rfl,hi,p⟩;by_cases hZ:i<n
 ·exact .inr ⟨Hf i ys σ H hZ p,Pv (i+1),fun Ja fA H2 p'=>⟨n-(i+1),by lia,rfl,hZ,p'⟩,fun x H2 y=>hs i ys σ H x H2 hZ p y⟩
 ·have e:i=n:=by lia
  subst e;exact .inl ⟨vp ys σ H p,hd ys σ H p⟩
theorem fV{K:Frag}{a:Addr}{xs:List V}{ls:List Str}{js:List Nat}{g:TG}{tt:TT}{te:TE}{σ:St}{H1:Hp}{D:Addr}{Q:VK}(Pv:Nat→List V→St→Hp→Prop)
  (h0:Pv 0 [] (lD ls js σ) (upd H1 D (.lst []))) (hl:∀i ys σ H,i≤xs.length→Pv i ys σ H→il K H a xs)
  (hs:∀i x ys σ H,xs[i]?=some x→Pv i ys σ H→g x σ H fun fA H3=>tt fA H3 fun b H4=>if b=true then te fA H4 fun y H5=>H5 D=some (.lst ys)∧ys.length<sizeLine∧Pv (i+1) (ys++[y]) fA (upd H5 D (.lst (ys++[y])))else Pv (i+1) ys fA H4)
  (hd:∀ys σ H,Pv xs.length ys σ H→Q (.ref D) H):
  sY (Mn K a) ls js g tt te σ H1 D Q:=
 oK (n:=xs.length) Pv h0 (fun i ys σ H hi p=>⟨xs,xs[i],hl i ys σ H (Nat.le_of_lt hi) p,by simp[hi]⟩) (fun ys σ H p=>⟨xs,hl _ ys σ H YH p,Nat.le_refl _⟩)
  (fun i ys σ H x H2 hi p y=>by
   obtain⟨e,y⟩:=y;subst e;exact hs i x ys σ _ (y xs (hl i ys σ _ (Nat.le_of_lt hi) p)) p) hd
theorem zX{lo:Int}{n:Nat}{ls:List Str}{js:List Nat}{g:TG}{tt:TT}{te:TE}{σ:St}{H1:Hp}{D:Addr}{Q:VK}(Pv:Nat→List V→St→Hp→Prop)
  (h0:Pv 0 [] (lD ls js σ) (upd H1 D (.lst [])))
  (hs:∀i ys σ H,i<n→Pv i ys σ H→g (.int (lo+i)) σ H fun fA H3=>tt fA H3 fun b H4=>if b=true then te fA H4 fun y H5=>H5 D=some (.lst ys)∧ys.length<sizeLine∧Pv (i+1) (ys++[y]) fA (upd H5 D (.lst (ys++[y])))else Pv (i+1) ys fA H4)
  (hd:∀ys σ H,Pv n ys σ H→Q (.ref D) H):
  sY (Kg lo n) ls js g tt te σ H1 D Q:=
 oK (n:=n) Pv h0 (fun i ys σ H hi p=>hi) (fun ys σ H p=>Nat.le_refl _)
  (fun i ys σ H x H2 hi p y=>by
   obtain⟨e,y⟩:=y;subst e y;exact hs i ys σ _ hi p) hd
theorem En{z:Str}{ls:List Str}{js:List Nat}{g:TG}{tt:TT}{te:TE}{σ:St}{H1:Hp}{D:Addr}{Q:VK}(Pv:Nat→List V→St→Hp→Prop)
  (h0:Pv 0 [] (lD ls js σ) (upd H1 D (.lst [])))
  (hs:∀i c ys σ H,z.cps.toList[i]?=some c→Pv i ys σ H→g (.str ⟨#[c]⟩) σ H fun fA H3=>tt fA H3 fun b H4=>if b=true then te fA H4 fun y H5=>H5 D=some (.lst ys)∧ys.length<sizeLine∧Pv (i+1) (ys++[y]) fA (upd H5 D (.lst (ys++[y])))else Pv (i+1) ys fA H4)
  (hd:∀ys σ H,Pv z.length ys σ H→Q (.ref D) H):
  sY (Qa z) ls js g tt te σ H1 D Q:=
 oK (n:=z.length) Pv h0 (fun i ys σ H hi p=>hi) (fun ys σ H p=>Nat.le_refl _)
  (fun i ys σ H x H2 hi p y=>by
   obtain⟨e,c,hc,ex⟩:=y;subst e ex;exact hs i c ys σ _ hc p) hd
theorem vI(z:Str)(lo hi:Option Int):(Txt.slice z lo hi).cps.toList=(z.cps.toList.drop (HT.kx z.length 0 lo)).take (HT.kx z.length z.length hi-HT.kx z.length 0 lo):=by
 have aaa:=HT.D_ z.length 0 (Nat.zero_le _) lo;have aai:=HT.D_ z.length z.length YH hi;have ix:Builtin.Str.strSliceIndices lo hi 1 z.length=(X_ (HT.kx z.length z.length hi-HT.kx z.length 0 lo)).map (HT.kx z.length 0 lo+·):=by
  rw[←sliceRange_one];have pos:(1:Int)>0:=Nn;cases lo with
  |none=>
   cases hi with
   |none=>rfl
   |some j=>
    simp only[Builtin.Str.strSliceIndices,HT.kx,pos,if_true]
    congr 1
    by_cases h:j<0
    ·simp only[h,if_true];lia
    ·simp only[h,if_false];lia
  |some i=>
   have e1:max 0 (min (if i<0 then i+(z.length:Int)else i) (z.length:Int))=((HT.kx z.length 0 (some i):Nat):Int):=by
    simp only[HT.kx];by_cases h:i<0
    ·simp only[h,if_true];lia
    ·simp only[h,if_false];lia
   cases hi with
   |none=>
    simp only[Builtin.Str.strSliceIndices,pos,if_true];rw[e1];rfl
   |some j=>
    have e2:max 0 (min (if j<0 then j+(z.length:Int)else j) (z.length:Int))=((HT.kx z.length z.length (some j):Nat):Int):=by
     simp only[HT.kx];by_cases h:j<0
     ·simp only[h,if_true];lia
     ·simp only[h,if_false];lia
    simp only[Builtin.Str.strSliceIndices,pos,if_true];rw[e1,e2]
 have hp:=pick_run z.cps (HT.kx z.length 0 lo) (HT.kx z.length z.length hi-HT.kx z.length 0 lo);unfold Txt.slice;rw[ix];split
 ·rename_i h
  simp only[List.length_map,List.length_range,beq_self_eq_true,Bool.true_and,beq_iff_eq]at h;have h0:HT.kx z.length 0 lo=0:=by lia
  have h1:HT.kx z.length z.length hi=z.length:=by lia
  rw[h0,h1,List.drop_zero,Nat.sub_zero,List.take_of_length_le (by simp[Str.length])]
 ·rw[←hp]
theorem vJ(z:Str)(lo hi:Option Int):(Txt.slice z lo hi).length≤z.length:=Txt.slice_le z lo hi
section
variable{X:Cx}
def R3:V→Option Int→Option Int→Hp→VK→Prop:=fun x lo hi H Q=>∃z,x= .str z∧z.length≤sizeLine∧Q (.str (Txt.slice z lo hi)) H
theorem zY:PV X R3:=by
 intro pins s σ H x v vl vu lo hi sl Q I rx hs pl pu h;obtain⟨z,rfl,hz,q⟩:=h;obtain⟨t,rfl⟩:=rx;refine⟨"str",_,F.slot_str_getitem.lookup,typeIs_str _ _ _,?_⟩;have go:∀l u:Option (Int×Tok),vl=partValue l→vu=partValue u→l.map (·.1)=lo→u.map (·.1)=hi→wpAny (model X.prog X.w) X.A (getItem (.str z t) (.ref sl)) (EP X pins σ Q) X.xe s:=by
  rintro l u rfl rfl rfl rfl;obtain⟨o,h1,h2,h3⟩:=hs;refine wpAny_getItem_str_slice (l:=l) (u:=u) (st:=none) ⟨o,h1,h2,h3⟩ rfl ?_;exact post_val_or_str ⟨ZN (Txt.slice_le z _ _) hz,fun t' k=>⟨.str (Txt.slice z (l.map (·.1)) (u.map (·.1))),H,I.tok _,⟨_,rfl⟩,q⟩⟩
 cases pl with
 |none=>
  cases pu with
  |none=>exact go none none rfl rfl rfl rfl
  |int j tj=>exact go none (some (j,tj)) rfl rfl rfl rfl
 |int i ti=>
  cases pu with
  |none=>exact go (some (i,ti)) none rfl rfl rfl rfl
  |int j tj=>exact go (some (i,ti)) (some (j,tj)) rfl rfl rfl rfl
theorem vK:rM X (compareOp .LtE) (fun x y H Q=>∃i j,x= .str i∧y= .str j∧Q (.bl (!decide (j.cps.toList<i.cps.toList))) H):=by
 intro pins s σ H x y v u Q I rx ry h;obtain⟨i,j,rfl,rfl,q⟩:=h;obtain⟨t,rfl⟩:=rx;obtain⟨t',rfl⟩:=ry;exact P.le_str (bF I q rfl)
theorem Hg{bs:List Bool}{us:List Value}(r:Vals (bs.map V.bl) us)(i:Nat)(v:Value)(h:us[i]?=some v):v= .bool (bs.getD i false):=by
 induction bs generalizing us i with
 |nil=>cases r;simp at h
 |cons b r' ih=>
  cases r with
  |cons r0 rr=>
   cases i with
   |zero=>
    have h0:some _=some v:=h;cases h0;exact r0
   |succ i=>simpa using ih rr i (by simpa using h)
theorem all_range(bs:List Bool):(X_ bs.length).all (fun i=>bs.getD i false)=bs.all id:=by
 rw[Bool.eq_iff_iff,List.all_eq_true,List.all_eq_true];constructor
 ·intro h b hb;obtain⟨i,hi,rfl⟩:=Α hb;have:=h i (by simpa using hi);simpa[hi]using this
 ·intro h i hi;have hi:i<bs.length:=by simpa using hi
  simpa[hi]using h bs[i] (Zq hi)
def N6(K:Frag)(f:List Bool→Bool):List V→Hp→VK→Prop:=fun xs H Q=>∃a bs,xs=[.ref a]∧il K H a (bs.map V.bl)∧Q (.bl (f bs)) H
theorem Eo(hc:X.calm=true):iD X (.builtin "all") (N6 X.K fun bs=>bs.all id):=by
 intro pins s σ H xs us Q I r h;obtain⟨a,bs,rfl,hq,q⟩:=h;cases r with
 |cons r rr=>
  cases rr;cases r;obtain⟨its,rv,p,hz⟩:=I.list hq;have hl:=rv.length;rw[List.length_map]at hl;refine call_all_walk (wpAny_pyIter_list p.isList ?_);have cG:a≠s.heap.objs.size:=by
   obtain⟨o,n,e,_⟩:=p;exact ZM (Y8 e)
  refine⟨s.heap.objs.size,_,_,_,_,_,fun i=>bs.getD i false,rfl,Walks.list (A:=X.A.in1) (show X.A.in1.handled=none from I.ok.hd hc) _ a cG its.toArray,⟨⟨_,Heap.get?_push_size _ rfl,rfl,rfl⟩,p.isList.at fun o e=>YG e⟩,fun i v s1 Q1 E1 hv q1=>?_,fun h' tk hk=>?_⟩
  ·have hv:=Hg rv i v (by simpa using hv);subst hv;exact wpAny_truthy_bool q1
  ·rw[List.size_toArray,←hl,all_range];refine⟨.bl (bs.all id),H,I.kept fun b o e=>hk b o (fun z=>?_) (YG e),rfl,q⟩;have z:b=s.heap.objs.size:=by simpa using z
   exact V' (z▸Y8 e) (Nat.lt_irrefl _)
def Jb:V→Option Value
 | .ty n=>some (.type n)
 | .ref C=>some (.ref C)
 | _=>none
theorem Cr{c:V}{cv u:Value}(h:Jb c=some cv)(r:RelV c u):u=cv:=by
 cases c<;>first
  |(cases h;done)
  |(cases h;exact r)
inductive KY(K:Frag)(xs:List V)(H:Hp)(Q:VK):Prop
 |mk (x:_) (c:_) (t:_) (b:_) (cv:_) (_:xs=[x,c]) (_:Jb c=some cv) (_:qk K H x t) (_:kitOne K t cv=some b) (_:Q (.bl b) H):KY K xs H Q
theorem Ep:iD X (.builtin "isinstance") (KY X.K):=by
 intro pins s σ H xs us Q I r h;obtain⟨x,c,t,b,cv,rfl,rc,ty,hk,q⟩:=h;cases r with
 |cons r1 rr=>
  cases rr with
  |cons r2 rr=>
   cases rr;cases Cr rc r2;exact Cd I r1 ty hk fun tk=>⟨.bl b,H,I.tok _,rfl,q⟩
end
section
variable{P:Program}{w:World}{K:Frag}{mg:Str→Option Value}{base:Heap}
abbrev Qb(P:Program)(w:World)(K:Frag)(mg:Str→Option Value)(base:Heap)(cm:Bool)(N:List Str)(qual:Str)(scope:Scope)(f:Addr)(cd:Value)(A:Around)(outer:List Env)(s:Shared)(H:Hp)(E:XK):Cx:=
 zR (dz P w) cm P w K mg base N qual scope f cd A outer s H E
theorem jN.gH{cm:Bool}{x qual:Str}{st:Stmt}{f:Addr}{fd:FuncData}{N ps:List Str}{k:Nat}{sp:Sp}(F:jN K x qual st f fd)(S:aL N ps (au st))(len:∀vs H Q E,sp vs H Q E→vs.length=ps.length)
  (yq:∀(bV:Value)(A:Around)(outer:List Env)(s:Shared)(H:Hp)(vs:List V)(Q:VK)(E:XK),eQ cm k (A.deeper (Zz qual (au st) f bV))→sp vs H Q E→
   P0 (Qb P w K mg base cm N qual (au st) f bV A outer s H E) (fun _=>E)→
   ∃t,B7 (Qb P w K mg base cm N qual (au st) f bV A outer s H E) (eJ st) t∧t {nx:=fun _ H'=>Q .cJ H',rt:=Q} (start N vs) H):aZ P w K mg base (dz P w) cm (k+1) f fd ps sp:=by
 obtain⟨oc,od,kV,doc,pm,an,bV,ct,Ba,rfl,lk,B8⟩:=F.ex;exact IS lk B8 S len fun A outer s H vs Q E hr Gm=>yq bV A outer s H vs Q E hr Gm Bf
end
def bM(P:Program)(w:World)(K:Frag)(mg:Str→Option Value)(base:Heap)(cm:Bool)(k:Nat)(x:Str)(ps:List Str)(sp:Sp):Prop:=
 ∃f fd,aZ P w K mg base (dz P w) cm k f fd ps sp∧mg x=some (.ref f)∧keepIn K (.ref f)=true∧Binds K fd ps []
theorem Es{P:Program}{w:World}{K:Frag}{mg:Str→Option Value}{base:Heap}{cm:Bool}{k:Nat}{x y:Str}{ps:List Str}{sp:Sp}{st:Stmt}{f:Addr}{fd:FuncData}(F:jN K x y st f fd)(hm:mg x=some (.ref f))(b:Binds K fd ps [])
  (ok:aZ P w K mg base (dz P w) cm k f fd ps sp):bM P w K mg base cm k x ps sp:=⟨f,fd,ok,hm,F.kp,b⟩
section
variable{X:Cx}{cm:Bool}{k:Nat}{x:Str}{ps:List Str}{sp:Sp}{E:St→XK}{e:Expr}{es:List Expr}{t:TA}{p pos:Pos}
theorem aO(D:bM X.prog X.w X.K X.mg X.base cm k x ps sp)(hr:eQ cm k X.A)(hx:Passes (dz X.prog X.w) X E)(ha:PA X (e::es) t)(hg:Gl X x:=by rfl)(wj:(x==("__debug__":Str))=false:=by decide)
  (he:starEach (e::es) X.env=(false,eval e X.env)::starEach es X.env:=by rfl) (ql:(kU pos).any (·.1)=false:=by rfl):PE X (.Call (.Name x p) (e::es) [] pos) (IQ sp [] E t):=by
 obtain⟨f,fd,ok,hm,hk,hb⟩:=D;exact GQ ok hr hg hm hk hb .nil hx ha wj he ql
theorem fH{v:V}(h:∃u,X.mg x=some u∧RelV v u)(hg:Gl X x:=by rfl)(hd:(x==("__debug__":Str))=false:=by decide):PE X (.Name x pos) (tC v):=by
 obtain⟨u,h1,h2⟩:=h;exact A0 hg h1 h2 hd
end
theorem sr{σ:St}{H:Hp}{A B:Hp→Prop}(h:A H):KU σ H (fun b H4=>if b=true then A H4 else B H4):=by
 show if true=true then A H else B H
 exact jO h
theorem nq{i:Nat}{x:V}{σ:St}{H:Hp}{A B:St→Hp→Prop}(h:A (σ.set i (some x)) H):A3 i x σ H (fun fA H3=>KU fA H3 (fun b H4=>if b=true then A fA H4 else B fA H4)):=by
 show if true=true then A (σ.set i (some x)) H else B (σ.set i (some x)) H
 exact jO h
theorem aD{n:Nat}(h:n≤100000):n≤sizeLine:=Nat.le_trans h ZO
theorem a_{n:Nat}(h:n≤100000):n<sizeLine:=Nat.lt_of_le_of_lt h ZO
def R4(t u:TS):TS:=fun D σ H=>∃Pm:St→Hp→Prop,t {D with nx:=Pm} σ H∧∀bx H',Pm bx H'→u D bx H'
theorem aE{X:Cx}{st:Stmt}{rest:List Stmt}{t u:TS}(h1:PS X st t)(h2:B7 X rest u):B7 X (st::rest) (R4 t u):=by
 intro pins s σ H D I h;obtain⟨Pm,ht,hu⟩:=h;refine wpAny_execs_cons (cD (h1 pins s σ H {D with nx:=Pm} I ht) fun f s1 q=>?_);cases f with
 |next=>obtain⟨bx,H',I',p⟩:=q;exact h2 pins s1 bx H' D I' (hu bx H' p)
 |brk=>exact q
 |cont=>exact q
 |ret v=>exact q
theorem av.upd{H:Hp}{a:Addr}{o:HO}(h:H a=none):av H (upd H a o):=fun b u e=>by rw[aj (aC e h)];exact e
theorem av.eR{H H':Hp}{a:Addr}{o:HO}(s:av H H')(h:H a=none):av H (L2.upd H' a o):=fun b u e=>by rw[aj (aC e h)];exact s b u e
end L2
namespace QF
open PySem L2
theorem qd{n:Nat}{P:List Value→Prop}(h:∀a us,us.length=n→P (a::us)):∀us:List Value,us.length=n+1→P us:=fun us e=>by
 cases us with
 |nil=>cases e
 |cons a r=>exact h a r (Nat.succ.inj e)
theorem KZ{P:List Value→Prop}(h:P []):∀us:List Value,us.length=0→P us:=fun us e=>by
 cases us with
 |nil=>exact h
 |cons a r=>cases e
theorem aaF{P:List Value→Prop}(h:∀a,P [a]):∀us:List Value,us.length=1→P us:=qd fun a=>KZ (h a)
theorem W6{P:List Value→Prop}(h:∀a b,P [a,b]):∀us:List Value,us.length=2→P us:=qd fun a=>qd fun b=>KZ (h a b)
theorem W7{P:List Value→Prop}(h:∀a b c,P [a,b,c]):∀us:List Value,us.length=3→P us:=qd fun a=>qd fun b=>qd fun c=>KZ (h a b c)
theorem W8{P:List Value→Prop}(h:∀a b c d,P [a,b,c,d]):∀us:List Value,us.length=4→P us:=qd fun a=>qd fun b=>qd fun c=>qd fun d=>KZ (h a b c d)
theorem W9{P:List Value→Prop}(h:∀a b c d e,P [a,b,c,d,e]):∀us:List Value,us.length=5→P us:=qd fun a=>qd fun b=>qd fun c=>qd fun d=>qd fun e=>KZ (h a b c d e)
theorem W_{P:List Value→Prop}(h:∀a b c d e f,P [a,b,c,d,e,f]):∀us:List Value,us.length=6→P us:=qd fun a=>qd fun b=>qd fun c=>qd fun d=>qd fun e=>qd fun f=>KZ (h a b c d e f)
theorem Xa{P:List Value→Prop}(h:∀a b c d e f g,P [a,b,c,d,e,f,g]):∀us:List Value,us.length=7→P us:=qd fun a=>qd fun b=>qd fun c=>qd fun d=>qd fun e=>qd fun f=>qd fun g=>KZ (h a b c d e f g)
theorem R5(us:List Value)(e:us.length=7):∃a b c d e f g,us=[a,b,c,d,e,f,g]:=Xa (P:=fun us=>∃a b c d e f g,us=[a,b,c,d,e,f,g]) (fun a b c d e f g=>⟨a,b,c,d,e,f,g,rfl⟩) us e
end QF
namespace L2
open PySem PySem.Spec PyProof.Rows PySem.W PySem.Calls
def notStar:Expr→Bool
 | .Starred _ _=>false
 | _=>true
theorem sZ{e:Expr}{es:List Expr}{env:Env}(h:notStar e=true):starEach (e::es) env=(false,eval e env)::starEach es env:=by
 cases e<;>first|rfl|cases h
theorem ak{X:Cx}{e:Expr}{es:List Expr}{te:TE}{t:TA}(ha:PE X e te)(hr:PA X es t)(hn:notStar e=true:=by rfl):PA X (e::es) (IP te t):=GP ha hr (sZ hn)
structure iu(K:Frag)(x qual:Str)(st:Stmt)(f:Addr)(fd:FuncData):Prop where
 ex:∃(oc:Value)(od:Option Addr)(dV kV doc pm:Value)(an:Option Addr)(bV ct:Value)(Ba:Array (Option Value)),
  fd=fnOf x qual (fG st) (eJ st) (au st) dV kV doc pm an bV ct∧K.lookup f=some ⟨oc,od, .func fd,Ba⟩∧codeIn K bV qual=true
 kp:keepIn K (.ref f)=true
theorem Bh{K:Frag}{x qual:Str}{st:Stmt}{f:Addr}{oc:Value}{od an:Option Addr}{Ba:Array (Option Value)}{dV kV doc pm bV ct:Value}(l:K.lookup f=some ⟨oc,od, .func (fnOf x qual (fG st) (eJ st) (au st) dV kV doc pm an bV ct),Ba⟩)
  (c:codeIn K bV qual=true) (k:keepIn K (.ref f)=true):iu K x qual st f (fnOf x qual (fG st) (eJ st) (au st) dV kV doc pm an bV ct):=⟨⟨oc,od,dV,kV,doc,pm,an,bV,ct,Ba,rfl,l,c⟩,k⟩
section
variable{P:Program}{w:World}{K:Frag}{mg:Str→Option Value}{base:Heap}
theorem iu.gH{cm:Bool}{x qual:Str}{st:Stmt}{f:Addr}{fd:FuncData}{N ps:List Str}{k:Nat}{sp:Sp}(F:iu K x qual st f fd)(S:aL N ps (au st))(len:∀vs H Q E,sp vs H Q E→vs.length=ps.length)
  (yq:∀(bV:Value)(A:Around)(outer:List Env)(s:Shared)(H:Hp)(vs:List V)(Q:VK)(E:XK),eQ cm k (A.deeper (Zz qual (au st) f bV))→sp vs H Q E→
   P0 (Qb P w K mg base cm N qual (au st) f bV A outer s H E) (fun _=>E)→
   ∃t,B7 (Qb P w K mg base cm N qual (au st) f bV A outer s H E) (eJ st) t∧t {nx:=fun _ H'=>Q .cJ H',rt:=Q} (start N vs) H):aZ P w K mg base (dz P w) cm (k+1) f fd ps sp:=by
 obtain⟨oc,od,dV,kV,doc,pm,an,bV,ct,Ba,rfl,lk,B8⟩:=F.ex;exact IS lk B8 S len fun A outer s H vs Q E hr Gm=>yq bV A outer s H vs Q E hr Gm Bf
end
def eE(P:Program)(w:World)(K:Frag)(mg:Str→Option Value)(base:Heap)(cm:Bool)(k:Nat)(C:Addr)(m:Str)(ps:List Str)(sp:Sp):Prop:=
 ∃f fd,aZ P w K mg base (dz P w) cm k f fd ps sp∧Meth K C m f∧Binds K fd ps []∧wg K C
def mS(P:Program)(w:World)(K:Frag)(mg:Str→Option Value)(base:Heap)(cm:Bool)(k:Nat)(x:Str)(C:Addr)(ps:List Str)(l':List V)(sp:Sp):Prop:=
 ∃f fd ds,aZ P w K mg base (dz P w) cm k f fd ps sp∧Mk K C f∧mg x=some (.ref C)∧Binds K fd ps ds∧Vals l' ds
theorem yA{P:Program}{w:World}{K:Frag}{mg:Str→Option Value}{base:Heap}{cm:Bool}{k:Nat}{x:Str}{C f:Addr}{fd:FuncData}{ps:List Str}{l':List V}{ds:List Value}{sp:Sp}(h1:aZ P w K mg base (dz P w) cm k f fd ps sp)(h2:Mk K C f)(h3:mg x=some (.ref C))(h4:Binds K fd ps ds)(h5:Vals l' ds):mS P w K mg base cm k x C ps l' sp:=⟨f,fd,ds,h1,h2,h3,h4,h5⟩
theorem Cs{P:Program}{w:World}{K:Frag}{mg:Str→Option Value}{base:Heap}{cm:Bool}{k:Nat}{m:Str}{C f:Addr}{fd:FuncData}{ps:List Str}{sp:Sp}(h1:aZ P w K mg base (dz P w) cm k f fd ps sp)(h2:Meth K C m f)(h3:Binds K fd ps [])(h4:wg K C):eE P w K mg base cm k C m ps sp:=⟨f,fd,h1,h2,h3,h4⟩
section
variable{X:Cx}{cm:Bool}{k:Nat}{x m:Str}{ps:List Str}{sp:Sp}{E:St→XK}{e o:Expr}{es:List Expr}{t:TA}{to:TE}{p pos apos:Pos}{C:Addr}{l':List V}
theorem su(D:mS X.prog X.w X.K X.mg X.base cm k x C ps l' sp)(hr:eQ cm (k+1) X.A)(hx:Passes (dz X.prog X.w) X E)(ha:PA X (e::es) t)(hg:Gl X x:=by rfl)(wj:(x==("__debug__":Str))=false:=by decide)
  (he:starEach (e::es) X.env=(false,eval e X.env)::starEach es X.env:=by rfl) (ql:(kU pos).any (·.1)=false:=by rfl):PE X (.Call (.Name x p) (e::es) [] pos) (A_ C sp l' E t):=by
 obtain⟨f,fd,ds,ok,M,hm,hb,hd⟩:=D;exact GU M ok hr hg hm hb hd hx ha wj he ql
theorem bN{pl:Sem Bool}(ho:PE X o to)(D:eE X.prog X.w X.K X.mg X.base cm k C m ps sp)(hr:eQ cm k X.A)(hx:Passes (dz X.prog X.w) X E)(ha:PA X (e::es) t)
  (vp:starEach (e::es) X.env=(false,eval e X.env)::starEach es X.env:=by rfl) (ql:(kU pos).any (·.1)=false:=by rfl)
  (ht:eval (.Call (.Attribute o m apos) (e::es) [] pos) X.env=(do
   let ov←eval o X.env
   standAt apos.atName
   let (f,first)←holding [ov] (getMethod ov m pl)
   callWith pos f first (backTo pos (starEach (e::es) X.env)) (Ο pos)):=by rfl):PE X (.Call (.Attribute o m apos) (e::es) [] pos) (A9 C m sp [] E to t):=by
 obtain⟨f,fd,ok,hm,hb,c⟩:=D;exact GR ho c hm ok hr hb .nil hx ha vp ql ht
theorem Ct{pl:Sem Bool}(ho:PE X o to)(D:eE X.prog X.w X.K X.mg X.base cm k C m ps sp)(hr:eQ cm k X.A)(hx:Passes (dz X.prog X.w) X E)
  (ht:eval (.Call (.Attribute o m apos) [] [] pos) X.env=(do
   let ov←eval o X.env
   standAt apos.atName
   let (f,first)←holding [ov] (getMethod ov m pl)
   callWith pos f first (backTo pos (starEach [] X.env)) (Ο pos)):=by rfl):PE X (.Call (.Attribute o m apos) [] [] pos) (A9 C m sp [] E to DY):=by
 obtain⟨f,fd,ok,hm,hb,c⟩:=D;exact D0 ho c hm ok hr hb .nil hx ht
end
section
variable{X:Cx}
theorem bf(K:Frag){tg l:Expr}{tl:TE}(hl:PE X l tl)(h:X.K=K:=by rfl):PI X tg l (IK K tl):=h▸GJ hl
theorem aF(K:Frag){e:Expr}{f:Str}{pos:Pos}{ta:TE}(he:PE X e ta)(hb:attributeBase e f X.env (eval e X.env)=eval e X.env:=by rfl)(h:X.K=K:=by rfl):PE X (.Attribute e f pos) (NA K ta f):=h▸Km he hb
theorem cj(K:Frag){o value:Expr}{f:Str}{pos pos':Pos}{ta tv:TE}(ha:PE X o ta)(hv:PE X value tv)(hs:swapsWith value (some (.Attribute o f pos')) pos.line X.env=pure false:=by rfl)(h:X.K=K:=by rfl):PS X (.Assign [.Attribute o f pos'] value pos) (NB K ta tv f):=h▸Kn ha hv hs
theorem aq(K:Frag)(h:X.K=K:=by rfl):Mq X (Kz K):=h▸G7
theorem bH(K:Frag)(h:X.K=K:=by rfl):Mq X (KA K):=h▸KC
theorem Et(K:Frag)(h:X.K=K:=by rfl):PV X (KG K):=h▸G8
inductive Jc(K:Frag)(xs:List V)(H:Hp)(Q:VK):Prop
 |mk (p:_) (ys:_) (_:xs=[.ref p]) (_:(il K H p ys∨DO K H p ys)) (_:Q (.int ys.length) H):Jc K xs H Q
theorem aJ(K:Frag)(h:X.K=K:=by rfl):iD X (.builtin "len") (Jc K):=by
 subst h;intro pins s σ H xs us Q I r hq;obtain⟨p,ys,e,d,q⟩:=hq;exact wC pins s σ H xs us Q I r ⟨p,ys,e,d,q⟩
inductive Bi(K:Frag)(xs:List V)(H:Hp)(Q:VK):Prop
 |mk (p:_) (ys:_) (_:xs=[.ref p]) (_:(il K H p ys∨DO K H p ys)) (_:∀l,H l=none→Q (.ref l) (upd H l (.lst ys))):Bi K xs H Q
theorem gU(K:Frag)(h:X.K=K:=by rfl):iD X (.type "list") (Bi K):=by
 subst h;intro pins s σ H xs us Q I r hq;obtain⟨p,ys,e,d,q⟩:=hq;exact wD pins s σ H xs us Q I r ⟨p,ys,e,d,q⟩
theorem Cu(K:Frag)(hc:X.calm=true)(h:X.K=K:=by rfl):iD X (.builtin "all") (N6 K fun bs=>bs.all id):=h▸Eo hc
theorem gN(K:Frag)(h:X.K=K:=by rfl):iD X (.builtin "isinstance") (KY K):=h▸Ep
theorem fI(K:Frag){es:List Expr}{k:Nat}{t:IJ}{n:Nat}{pos:Pos}(hc:X.calm=true)(h:Nr X es t)
  (hn:(assignEach es X.env).length=n:=by rfl) (vp:(assignEach es X.env).findIdx? (·.1)=none:=by rfl) (hK:X.K=K:=by rfl):PG X (.Tuple es k pos) (Kb K n t):=hK▸Kc hc h hn vp
theorem eX(K:Frag){T:String}{name:Str}{id:String}{r:V→List V→Hp→VK→Prop}{o e:Expr}{es:List Expr}{apos eD:Pos}{to:TE}{t:TA}(pa:PlainAttrs T)(slot:Slot T name id)(Dv:typeOf (.builtin id)=pure (.type "method_descriptor"))(hm:PX X id r)(ho:PE X o to)(ha:PA X (e::es) t)
  (oE:attributeBase o name X.env (eval o X.env)=eval o X.env:=by rfl)
  (Ed:((backTo eD (starEach (e::es) X.env)).all (fun x=>!x.1)&&(Ο eD).all (fun x=>x.1.isSome)
   &&decide ((e::es).length+([]:List Keyword).length+(if ([]:List Keyword).isEmpty then 0 else 1)<30))=true:=by rfl)
  (oF:(apos.endLine==eD.line)=true:=by rfl) (hs:starEach (e::es) X.env=(false,eval e X.env)::starEach es X.env:=by rfl) (zT:(kU eD).any (·.1)=false:=by rfl) (hK:X.K=K:=by rfl):
  PE X (.Call (.Attribute o name apos) (e::es) [] eD) (UE K T r to t):=hK▸NO pa slot Dv hm ho ha oE Ed oF hs zT
end
section
variable{X:Cx}
end
end L2
namespace QF
open PySem L2
structure TB(mg:Str→Option Value):Prop where
 cN:mg "len"=none
 fJ:mg "range"=none
 dW:mg "isinstance"=none
 Bj:mg "int"=none
 K0:mg "bool"=none
 aaV:mg "str"=none
 lE:mg "list"=none
 Hh:mg "tuple"=none
 abZ:mg "dict"=none
 N7:mg "all"=none
 abH:mg "any"=none
 Eu:mg "min"=none
 Jd:mg "max"=none
 jq:mg "enumerate"=none
 aaz:mg "ValueError"=none
def DX(mg:Str→Option Value)(x:Str)(v:V):Prop:=∃u,mg x=some u∧RelV v u
def cell(ns:List Int)(k:Int):Int:=ns.getD k.toNat 0
theorem Hj{ns:List Int}{k:Int}(h0:0≤k)(h:k<(ns.length:Int)):so (ns.map V.int) k=some (.int (cell ns k)):=by
 obtain⟨j,rfl⟩:=Int.eq_ofNat_of_zero_le h0;have hj:j<ns.length:=by lia
 refine ar ?_;simp[cell,hj]
theorem cell_out{ns:List Int}{k:Int}(h0:0≤k)(h:¬k<(ns.length:Int)):cell ns k=0:=by
 have hj:ns.length≤k.toNat:=by lia
 simp[cell,hj]
def low(c:Nat):Bool:=decide (97≤c)&&decide (c≤122)
def s_(z:Str):Bool:=decide (1≤z.length)&&decide (z.length≤12)&&z.cps.toList.all low
theorem UP(a b:Nat):(([a]:List Nat)<[b])↔a<b:=by
 constructor
 ·intro h;cases h with
  |rel h=>exact h
  |cons h=>cases h
 ·intro h;exact .rel h
theorem R7(c:Nat):(!decide (([c]:List Nat)<(Zk "a").cps.toList))=decide (97≤c):=by
 have e:(Zk "a").cps.toList=[97]:=by decide+kernel
 rw[e,Bool.eq_iff_iff];simp only[Bool.not_eq_true',decide_eq_false_iff_not,decide_eq_true_eq,UP]
 lia
theorem R8(c:Nat):(!decide ((Zk "z").cps.toList<([c]:List Nat)))=decide (c≤122):=by
 have e:(Zk "z").cps.toList=[122]:=by decide+kernel
 rw[e,Bool.eq_iff_iff];simp only[Bool.not_eq_true',decide_eq_false_iff_not,decide_eq_true_eq,UP]
 lia
theorem len_app(x y:Str):(x++y).length=x.length+y.length:=by
 show(x.cps++y.cps).size=_;rw[Array.size_append];rfl
inductive Ew(K:W.Frag)(vs:List V)(H:Hp)(Q:VK)(u3:XK):Prop
 |mk (a:_) (ns:_) (k:_) (_:vs=[.ref a, .int k]) (_:il K H a (ns.map V.int)) (_:0≤k) (_:Q (.int (cell ns k)) H):Ew K vs H Q u3
inductive tf(vs:List V)(H:Hp)(Q:VK)(u3:XK):Prop
 |mk (i:_) (_:vs=[.int i]) (_:Q (.bl true) H):tf vs H Q u3
inductive zZ(vs:List V)(H:Hp)(Q:VK)(u3:XK):Prop
 |mk (c:Nat) (_:vs=[.str ⟨#[c]⟩]) (_:Q (.bl (low c)) H):zZ vs H Q u3
inductive wI(vs:List V)(H:Hp)(Q:VK)(u3:XK):Prop
 |mk (z:Str) (_:vs=[.str z]) (_:z.length≤100000) (_:∀H',av H H'→Q (.bl (s_ z)) H'):wI vs H Q u3
inductive nr(vs:List V)(H:Hp)(Q:VK)(u3:XK):Prop
 |mk (l n h:Int) (_:vs=[.int l, .int n, .int h]) (_:Q (.bl (decide (l≤n)&&decide (n≤h))) H):nr vs H Q u3
def Bk(K:W.Frag):Sp:=fun vs H Q _=>∃(a:Addr)(ns:List Int),vs=[.ref a]∧il K H a (ns.map V.int)∧ns.length≤63∧∀H',Q (.bl true) H'
structure Er(K:W.Frag)(mg:Str→Option Value)(x:Str)(C:Addr):Prop where
 m:mg x=some (.ref C)
 e:NW K C
def inR(l n h:Int):Bool:=decide (l≤n)&&decide (n≤h)
inductive qp(C:Addr)(vs:List V)(H:Hp)(Q:VK)(E:XK):Prop
 |mk (nm:Str) (n l h:Int) (_:vs=[.str nm, .int n, .int l, .int h]) (_:nm.length≤20) (_:(0≤l∧l≤1)) (_:(h=100∨h=999999)) (_:(if inR l n h=true then Q .cJ H else E (.ref C) none H)):qp C vs H Q E
theorem oM{i:Int}(h:i=0∨i=1∨i=12∨i=40∨i=60∨i=100∨i=999999):i.natAbs.log2<1920∧(Zk (toString i)).length≤6:=by
 rcases h with rfl|rfl|rfl|rfl|rfl|rfl|rfl<;>exact⟨by decide+kernel,by decide+kernel⟩
theorem me:(Str.empty).length=0:=by decide+kernel
theorem ic{x:V}:[x].length≤sizeLine:=aD Mi
def iy(x y:Str)(p:Int):Bool:=s_ x&&s_ y&&!(x==y)&&inR 0 p 999999
inductive wJ(C:Addr)(vs:List V)(H:Hp)(Q:VK)(E:XK):Prop
 |mk (x y:Str) (p:Int) (_:vs=[.str x, .str y, .int p]) (_:x.length≤100000) (_:y.length≤100000) (_:(if iy x y p=true then ∀H',av H H'→Q .cJ H' else ∀H',av H H'→E (.ref C) none H')):wJ C vs H Q E
abbrev Form:=Str×Str×Int
def K1(f:Form):List V:=[.str f.1, .str f.2.1, .int f.2.2]
def lh(f:Form):List Key:=[.inr f.1, .inr f.2.1]
def lF(f:Form):List Key×V:=(lh f, .int f.2.2)
def Dx(f:Form):Bool:=iy f.1 f.2.1 f.2.2
def dQ(H:Hp)(xs:List V)(fs:List Form):Prop:=xs.length=fs.length∧∀(i:Nat)(f:Form),fs[i]?=some f→∃t,xs[i]?=some (V.ref t)∧H t=some (.tup (K1 f))
def bO(fs:List Form):Bool:=decide (fs.length≤60)&&fs.all Dx&&decide ((fs.map lh).Nodup)
def Short(fs:List Form):Prop:=fs.length≤1000∧∀f∈fs,f.1.length≤100000∧f.2.1.length≤100000
theorem dQ.same{H H':Hp}{xs:List V}{fs:List Form}(t:dQ H xs fs)(s:av H H'):dQ H' xs fs:=⟨t.1,fun i f e=>let ⟨b,h1,h2⟩:=t.2 i f e;⟨b,h1,s _ _ h2⟩⟩
theorem dQ.nil{H:Hp}:dQ H [] []:=⟨rfl,fun i f e=>by simp at e⟩
inductive qr(C:Addr)(vs:List V)(H:Hp)(Q:VK)(E:XK):Prop
 |mk (a:Addr) (xs:List V) (fs:List Form) (_:vs=[.ref a]) (_:H a=some (.lst xs)) (_:dQ H xs fs) (_:Short fs) (_:(if bO fs=true then ∀H' d,av H H'→H d=none→H' d=some (.dT (fs.map lF))→Q (.ref d) H' else ∀H',av H H'→E (.ref C) none H')):qr C vs H Q E
theorem Bl(fs:List Form):(fs.map lF).map (·.1)=fs.map lh:=by rw[List.map_map];rfl
theorem Ex{fs:List Form}{i:Nat}{f:Form}(e:fs[i]?=some f)(h:Dx f=false):bO fs=false:=by
 have hm:f∈fs:=WI e;have:fs.all Dx=false:=by
  rw[Bool.eq_false_iff];intro z;rw[List.all_eq_true]at z;rw[z f hm]at h;cases h
 simp[bO,this]
theorem Cv{fs:List Form}{i:Nat}{f:Form}(e:fs[i]?=some f)(h:lh f∈(fs.take i).map lh):bO fs=false:=by
 have:¬(fs.map lh).Nodup:=fun z=>by
  obtain⟨hi,e'⟩:=ZX e;have e2:fs=fs.take i++f::fs.drop (i+1):=by
   rw[←e',List.getElem_cons_drop,List.take_append_drop]
  rw[e2,List.map_append,List.map_cons,List.nodup_append]at z;exact z.2.2 _ h _ (List.mem_cons_self) rfl
 simp[bO,this]
theorem Cw{fs:List Form}{i:Nat}{f:Form}(e:fs[i]?=some f):(fs.take (i+1)).map lF=(fs.take i).map lF++[lF f]:=by
 rw[List.take_succ,e,List.map_append];rfl
theorem N8{fs:List Form}{k:List Key}(h:bu (fs.map lF) k=none):k∉fs.map lh:=by
 have:=yz h;rwa[Bl]at this
theorem K2{fs:List Form}{k:List Key}{v:V}(h:bu (fs.map lF) k=some v):k∈fs.map lh:=by
 have:=Be h;rwa[Bl]at this
structure Ey(K:W.Frag)(C:Addr):Prop where
 cl:wg K C
 same:bY K C "same"
 out:bY K C "out"
 into:bY K C "into"
 least:bY K C "least"
 part:bY K C "part"
 near:bY K C "near"
 Ez:bY K C "prices"
structure Nums where
 same:Int
 out:Int
 into:Int
 least:Int
 part:Int
def i9(n:Nums):Bool:=inR 1 n.same 999999&&inR 0 n.out 999999&&inR 0 n.into 999999&&inR 1 n.least 999999&&inR 1 n.part 100
def wK(n:Nums)(l d:Addr):List (Str×V):=[("same", .int n.same),("out", .int n.out),("into", .int n.into),("least", .int n.least),("part", .int n.part),("near", .ref l),("prices", .ref d)]
def mT(n:Nums):List (Str×V):=[("same", .int n.same),("out", .int n.out),("into", .int n.into),("least", .int n.least),("part", .int n.part)]
def SameBut(x:Addr)(H H':Hp):Prop:=∀b u,b≠x→H b=some u→H' b=some u
structure ky(H:Hp)(C x:Addr)(n:Nums)(fs:List Form)(dx l d:Addr)(xs:List V):Prop where
 ob:H x=some (.ins C dx (wK n l d))
 own:H dx=some (.own x)
 li:H l=some (.lst xs)
 tr:dQ H xs fs
 di:H d=some (.dT (fs.map lF))
def N9(H:Hp)(v:V)(xs:List V)(fs:List Form):Prop:=(v= .cJ∧xs=[]∧fs=[])∨∃a,v= .ref a∧H a=some (.lst xs)∧dQ H xs fs
inductive sD(C CT CN:Addr)(vs:List V)(H:Hp)(Q:VK)(E:XK):Prop
 |mk (x dx:Addr) (n:Nums) (nv:V) (xs:List V) (fs:List Form) (_:vs=[.ref x, .int n.same, .int n.out, .int n.into, .int n.least, .int n.part,nv]) (_:H x=some (.ins C dx [])) (_:H dx=some (.own x)) (_:N9 H nv xs fs) (_:Short fs) (_:(if i9 n=true then(if bO fs=true then ∀H' l d,SameBut x H H'→ky H' C x n fs dx l d xs→H l=none→H d=none→Q .cJ H' else ∀H',SameBut x H H'→E (.ref CN) none H')else ∀H',SameBut x H H'→E (.ref CT) none H')):sD C CT CN vs H Q E
theorem R9(n:Nums):bp "part" (.int n.part) (bp "least" (.int n.least) (bp "into" (.int n.into) (bp "out" (.int n.out) (bp "same" (.int n.same) []))))=mT n:=by kernel_rfl
theorem R_(n:Nums)(l d:Addr):bp "prices" (.ref d) (bp "near" (.ref l) (mT n))=wK n l d:=by kernel_rfl
theorem N_(n:Nums)(l:Addr):(bp "near" (.ref l) (mT n)).lookup ("near":Str)=some (V.ref l):=by kernel_rfl
theorem SameBut.refl{x:Addr}{H:Hp}:SameBut x H H:=fun _ _ _ h=>h
theorem SameBut.upd{x:Addr}{H H':Hp}{o:HO}(s:SameBut x H H'):SameBut x H (upd H' x o):=fun b u n h=>by rw[aj n];exact s b u n h
theorem SameBut.same{x:Addr}{H H' H2:Hp}(s:SameBut x H H')(t:av H' H2):SameBut x H H2:=fun b u n h=>t b u (s b u n h)
theorem SameBut.laid{x a:Addr}{H H':Hp}{o:HO}(s:SameBut x H H')(h:H a=none):SameBut x H (L2.upd H' a o):=fun b u n e=>by rw[aj (aC e h)];exact s b u n e
theorem SameBut.free{x l:Addr}{H H':Hp}{o:HO}(s:SameBut x H H')(hx:H' x=some o)(h:H' l=none):H l=none:=by
 cases e:H l with
 |none=>rfl
 |some u=>
  have n:l≠x:=fun z=>by rw[z,hx]at h;cases h
  rw[s l u n e]at h;cases h
theorem dQ.but{x:Addr}{H H':Hp}{xs:List V}{fs:List Form}{C dx:Addr}{gs:List (Str×V)}(t:dQ H xs fs)(s:SameBut x H H')(hx:H x=some (.ins C dx gs)):dQ H' xs fs:=
 ⟨t.1,fun i f e=>let ⟨b,h1,h2⟩:=t.2 i f e;⟨b,h1,s _ _ (fun z=>by rw[z,hx]at h2;cases h2) h2⟩⟩
def fl(j:Nat):List V:=[.bl (decide (0=j)), .bl (decide (1=j)), .bl (decide (2=j)), .bl (decide (3=j)), .bl (decide (4=j)), .bl (decide (5=j)), .bl (decide (6=j)), .bl (decide (7=j)), .bl (decide (8=j)), .bl (decide (9=j)), .bl (decide (10=j)), .bl (decide (11=j)), .bl (decide (12=j)), .bl (decide (13=j))]
def kinds:List Str:=["word","book","terms","near","way","name","year","taken","full","many","no book","no finding","left","search","another"]
def kindOf(j:Nat):Str:=kinds.getD j ""
theorem int_at(is:List Int){i:Int}(h0:0≤i)(h:i<(is.length:Int)):∃m,m∈is∧so (is.map V.int) i=some (.int m):=by
 obtain⟨j,rfl⟩:=Int.eq_ofNat_of_zero_le h0;have hj:j<is.length:=by lia
 exact⟨is[j],Zq hj,ar (by simp[hj])⟩
theorem EA(n:Nums)(l d:Addr):(wK n l d).lookup ("same":Str)=some (V.int n.same):=by kernel_rfl
theorem l_out(n:Nums)(l d:Addr):(wK n l d).lookup ("out":Str)=some (V.int n.out):=by kernel_rfl
theorem K3(n:Nums)(l d:Addr):(wK n l d).lookup ("into":Str)=some (V.int n.into):=by kernel_rfl
theorem Hk(n:Nums)(l d:Addr):(wK n l d).lookup ("least":Str)=some (V.int n.least):=by kernel_rfl
theorem EB(n:Nums)(l d:Addr):(wK n l d).lookup ("prices":Str)=some (V.ref d):=by kernel_rfl
theorem wL(n:Nums)(l d:Addr):(wK n l d).lookup ("pair_worth":Str)=none:=by kernel_rfl
end QF
namespace L2
open PySem PySem.Spec PyProof.Rows PySem.W PySem.Calls
section
variable{X:Cx}
inductive Oa(K:Frag)(x:V)(y:V)(H:Hp)(Q:VK):Prop
 |mk (p:_) (q:_) (xs:_) (_:x= .ref p) (_:y= .ref q) (_:il K H p xs) (_:il K H q []) (_:Q (.bl (!xs.isEmpty)) H):Oa K x y H Q
theorem tm(K:Frag)(hu:X.A.units<cLine)(hK:X.K=K:=by rfl):rM X (compareOp .NotEq) (Oa K):=by
 subst hK;intro pins s σ H x y v u Q I rx ry h;obtain⟨p,q,xs,rfl,rfl,hp,hq,k⟩:=h;cases rx;cases ry;obtain⟨its,r,pl,hz⟩:=I.list hp;obtain⟨dB,r2,Hl,Je⟩:=I.list hq;cases r2;obtain⟨⟨cls,dd,data,sl⟩,ho,hc,n,hd⟩:=id pl.isList;obtain⟨⟨EC,rO,data2,mR⟩,sE,qc,n2,hd2⟩:=id Hl.isList;simp only at hc hd qc hd2;subst hc hd qc hd2;by_cases e:its=[]
 ·subst e;cases r;refine richCompare_meets_room (op:= .NotEq) ⟨_,ho,rfl⟩ ⟨_,sE,rfl⟩ F.slot_list_ne F.entry_list_ne (F.args_list_ne_2 _ _) (SeqAt.list_neAt p q #[] #[] n n2 dd rO sl mR rfl (fun _=>true)) ⟨ho,sE,fun j h1 _=>Zy h1,?_⟩ hu;exact⟨(fun x=>nomatch x), .bl false,H,I,rfl,k⟩
 ·have hx:xs≠[]:=fun z=>by subst z;cases r;exact e rfl
  have hsz:(its.toArray.size !=(#[]:Array Value).size)=true:=by simpa using e
  refine richCompare_meets_room (op:= .NotEq) ⟨_,ho,rfl⟩ ⟨_,sE,rfl⟩ F.slot_list_ne F.entry_list_ne (F.args_list_ne_2 _ _) (SeqAt.list_ne_lengthsAt p q its.toArray #[] n n2 dd rO sl mR hsz) ⟨ho,sE,?_⟩ hu;have:(!xs.isEmpty)=true:=by simpa using hx
  rw[this]at k;exact⟨(fun x=>nomatch x), .bl true,H,I,rfl,k⟩
end
end L2
namespace QF
open PySem L2
theorem Ms{α:Type}{xs:List α}{i:Nat}{v:α}(h:xs[i]?=some v):so xs (0+(i:Int))=some v:=by
 rw[Int.zero_add];exact ar h
def dX(fs:List Form)(x y:Str):Option Int:=(fs.find? fun f=>decide (f.1=x∧f.2.1=y)).map (·.2.2)
def cY(same:Int)(fs:List Form)(x y:Str):Option Int:=if x=y then some same else(dX fs x y).map (same-·)
def bB:Option Int→V
 |none=> .cJ
 |some i=> .int i
theorem wM(f:Form)(x y:Str):lh f=[.inr x, .inr y]↔f.1=x∧f.2.1=y:=by simp[lh]
theorem vL(x y:Str):∀fs:List Form,bu (fs.map lF) [.inr x, .inr y]=(dX fs x y).map V.int
 |[]=>rfl
 |f::r=>by
  rw[List.map_cons];by_cases h:lh f=[.inr x, .inr y]
  ·have h':=(wM f x y).mp h;rw[cF (show(lF f).1=_ from h)];simp[dX,List.find?_cons,h'.1,h'.2,lF]
  ·have h':¬(f.1=x∧f.2.1=y):=fun z=>h ((wM f x y).mpr z)
   rw[cw (show ¬(lF f).1=_ from h),vL x y r];simp[dX,List.find?_cons,h']
inductive wN(C:Addr)(vs:List V)(H:Hp)(Q:VK)(u3:XK):Prop
 |mk (t:Addr) (x y:Str) (n:Nums) (fs:List Form) (dx l d:Addr) (xs:List V) (_:vs=[.ref t, .str x, .str y]) (_:ky H C t n fs dx l d xs) (_:∀H',av H H'→Q (bB (cY n.same fs x y)) H'):wN C vs H Q u3
abbrev Ob:Str:=Zk "abcdefghijklmnopqrstuvwxyz"
theorem Hm:Ob.length=26:=by decide+kernel
theorem z9(zs:List Str){i:Int}(h0:0≤i)(h:i<(zs.length:Int)):∃m,m∈zs∧so (zs.map V.str) i=some (.str m):=by
 obtain⟨j,rfl⟩:=Int.eq_ofNat_of_zero_le h0;have hj:j<zs.length:=by lia
 exact⟨zs[j],Zq hj,ar (by simp[hj])⟩
theorem oN(x y:Str):(x++y).cps.toList=x.cps.toList++y.cps.toList:=by
 show(x.cps++y.cps).toList=_;simp
def cO(H H':Hp):Prop:=∀t v,H t=some (.tup v)→H' t=some (.tup v)
theorem cO.same{H H':Hp}(s:av H H'):cO H H':=fun t v h=>s _ _ h
theorem cO.lst{H:Hp}{l:Addr}{xs:List V}{o:HO}(h:H l=some (.lst xs)):cO H (upd H l o):=fun t v e=>by
 rw[aj (Ι e h)];exact e
theorem dQ.cA{H H':Hp}{xs:List V}{fs:List Form}(T:dQ H xs fs)(k:cO H H'):dQ H' xs fs:=⟨T.1,fun i f e=>let ⟨b,h1,h2⟩:=T.2 i f e;⟨b,h1,k _ _ h2⟩⟩
theorem dQ.snoc{H:Hp}{xs:List V}{fs:List Form}{t:Addr}{f:Form}(T:dQ H xs fs)(ht:H t=some (.tup (K1 f))):dQ H (xs++[.ref t]) (fs++[f]):=by
 refine⟨by simp[T.1],fun i g e=>?_⟩;by_cases h:i<fs.length
 ·rw[ZA h]at e;obtain⟨b,h1,h2⟩:=T.2 i g e;exact⟨b,by rw[ZA (by rw[T.1];exact h)];exact h1,h2⟩
 ·have hi:i=fs.length:=by
   have:=(ZX e).1;simp at this
   lia
  subst hi;have hg:f=g:=by simpa using e
  subst hg;exact⟨t,by rw[←T.1];simp,ht⟩
theorem Hn{n j:Nat}(h:j<n):Ea n (j:Int)=some j:=by
 unfold Ea;rw[HB D9,HB D9];simp
theorem Ho:Ob.cps.toList=(X_ 26).map (97+·):=by decide+kernel
theorem ED{r:Int}:so Ob.cps.toList (r%26)=some (97+(r%26).toNat):=by
 have h0:0≤r%26:=by lia
 have h1:r%26<26:=by lia
 generalize r%26=m at h0 h1;obtain⟨j,rfl⟩:=Int.eq_ofNat_of_zero_le h0;refine ar ?_;have hj:j<26:=by lia
 rw[Ho];simp[hj]
theorem Bm(r:Int):low (97+(r%26).toNat)=true:=by
 have h1:(r%26).toNat≤25:=by lia
 simp[low]
 lia
def lows(z:Str):Prop:=z.cps.toList.all low=true
def j5(bT:Str)(cell other:Int)(k:Nat):Str:=
 let size:=1+cell/2%12
 if cell%2=1 then Txt.slice bT none (some (1+(size+k)%12))
 else Txt.slice bT none (some (other%size))++⟨#[97+((other/12+k)%26).toNat]⟩++Txt.slice bT (some (other%size+1)) (some size)
theorem wO{n d:Nat}{v:Int}(h0:0≤v)(h:v≤n):HT.kx n d (some v)=v.toNat:=by
 simp only[HT.kx];split<;>lia
theorem lG{z:Str}{v:Int}(h0:0≤v)(h:v≤z.length):(Txt.slice z none (some v)).cps.toList=z.cps.toList.take v.toNat:=by
 rw[vI,wO h0 h,HT.aaT];simp
theorem EE{z:Str}{u v:Int}(h0:0≤u)(h1:u≤v)(h:v≤z.length):(Txt.slice z (some u) (some v)).cps.toList=(z.cps.toList.drop u.toNat).take (v.toNat-u.toNat):=by
 rw[vI,wO h0 D9,wO D9 h]
theorem len_list(z:Str):z.cps.toList.length=z.length:=by simp[Str.length]
theorem EF{z:Str}(h1:1≤z.length)(h2:z.length≤12)(h:lows z):s_ z=true:=by
 have h:z.cps.toList.all low=true:=h;simp[s_,h1,h2,h]
theorem EG{bT:Str}(hl:bT.length=12)(hs:lows bT)(cell other:Int)(k:Nat):s_ (j5 bT cell other k)=true:=by
 have mU:=List.all_eq_true.mp hs;have Mt:=len_list bT;have z0:1≤1+cell/2%12∧1+cell/2%12≤12:=by lia
 unfold j5;simp only;generalize 1+cell/2%12=size at z0;split
 ·have z1:1≤1+(size+(k:Int))%12∧1+(size+(k:Int))%12≤12:=by lia
  generalize 1+(size+(k:Int))%12=m at z1;have e:=lG (z:=bT) (v:=m) (by lia) (by lia);have el:(Txt.slice bT none (some m)).length=m.toNat:=by rw[←len_list,e,List.length_take,Mt];lia
  refine EF D9 (by lia) ?_;unfold lows;rw[e,List.all_eq_true];exact fun c hc=>mU c (ui hc)
 ·have z1:0≤other%size∧other%size<size:=⟨Int.emod_nonneg _ (by lia),Int.emod_lt_of_pos _ (by lia)⟩
  generalize other%size=jj at z1;have e1:=lG (z:=bT) (v:=jj) (by lia) (by lia);have e2:=EE (z:=bT) (u:=jj+1) (v:=size) (by lia) (by lia) (by lia);have l1:(Txt.slice bT none (some jj)).length=jj.toNat:=by rw[←len_list,e1,List.length_take,Mt];lia
  have l2:(Txt.slice bT (some (jj+1)) (some size)).length=size.toNat-(jj+1).toNat:=by rw[←len_list,e2,List.length_take,List.length_drop,Mt];lia
  have el:(Txt.slice bT none (some jj)++(⟨#[97+((other/12+(k:Int))%26).toNat]⟩:Str)++Txt.slice bT (some (jj+1)) (some size)).length=size.toNat:=by
   rw[len_app,len_app,l1,l2];show jj.toNat+1+_=_
   lia
  refine EF D9 (by lia) ?_;unfold lows;rw[oN,oN,e1,e2,List.all_append,List.all_append];have a1:(bT.cps.toList.take jj.toNat).all low=true:=List.all_eq_true.mpr fun c hc=>mU c (ui hc)
  have a2:((bT.cps.toList.drop (jj+1).toNat).take (size.toNat-(jj+1).toNat)).all low=true:=List.all_eq_true.mpr fun c hc=>mU c (List.mem_of_mem_drop (ui hc))
  have a3:=Bm (other/12+(k:Int));rw[a1,a2];simp[a3]
theorem K4{A B:List Nat}{c:Nat}:(A++[c]++B)[A.length]?=some c:=IM
theorem EH{bT:Str}(hl:bT.length=12)(cell other:Int){k k':Nat}(hk:k<12)(z_:k'<12)(e:j5 bT cell other k=j5 bT cell other k'):k=k':=by
 have Mt:=len_list bT;have z0:1≤1+cell/2%12∧1+cell/2%12≤12:=by lia
 unfold j5 at e;simp only at e;generalize 1+cell/2%12=size at z0 e;split at e
 ·have e:=congrArg (fun z:Str=>z.cps.toList.length) e;rw[lG D9 (by lia),lG D9 (by lia),List.length_take,List.length_take,Mt,hl]at e
  lia
 ·have z1:0≤other%size∧other%size<size:=⟨Int.emod_nonneg _ (by lia),Int.emod_lt_of_pos _ (by lia)⟩
  generalize other%size=jj at z1 e;have e1:=lG (z:=bT) (v:=jj) (by lia) (by lia);have l1:(bT.cps.toList.take jj.toNat).length=jj.toNat:=by rw[List.length_take,Mt];lia
  have at_:∀c:Nat,(Txt.slice bT none (some jj)++(⟨#[c]⟩:Str)++Txt.slice bT (some (jj+1)) (some size)).cps.toList[jj.toNat]?=some c:=fun c=>by
   rw[oN,oN,e1];have:=K4 (A:=bT.cps.toList.take jj.toNat) (B:=(Txt.slice bT (some (jj+1)) (some size)).cps.toList) (c:=c);rw[l1]at this;exact this
  have e:=congrArg (fun z:Str=>z.cps.toList[jj.toNat]?) e;have e2:=(at_ _).symm.trans (e.trans (at_ _));have e3:=WK e2
  lia
theorem Aa{bT:Str}(hl:bT.length=12)(cell other:Int){n:Nat}(hn:n≤12):((X_ n).map (j5 bT cell other)).Nodup:=by
 refine List.pairwise_map.mpr ?_;refine List.Pairwise.imp_of_mem (R:=fun a b=>a≠b) (fun{a b} ha hb h e=>h ?_) List.nodup_range;exact EH hl cell other (by have:=List.mem_range.mp ha;lia) (by have:=List.mem_range.mp hb;lia) e
inductive wQ(vs:List V)(H:Hp)(Q:VK)(u3:XK):Prop
 |mk (cell other many:Int) (_:vs=[.int cell, .int other, .int many]) (_:0≤many) (_:many≤12) (_:∀H' b (zs:List Str),av H H'→H b=none→H' b=some (.lst (zs.map V.str))→zs.length=many.toNat→(∀z∈zs,s_ z=true)→zs.Nodup→Q (.ref b) H'):wQ vs H Q u3
structure cZ(zs:List Str)(i j:Nat)(fs:List Form):Prop where
 ok:∀f∈fs,Dx f=true
 nd:(fs.map lh).Nodup
 old:∀f∈fs,∃i' j',(i'<i∨(i'=i∧j'<j))∧zs[i']?=some f.1∧zs[j']?=some f.2.1
 uB:fs.length+(if i<j then 1 else 0)≤i*(zs.length-1)+j
theorem cZ.nil{zs:List Str}:cZ zs 0 0 []:=⟨IM,IM,IM,IM⟩
theorem cZ.skip{zs:List Str}{i j:Nat}{fs:List Form}(p:cZ zs i j fs):cZ zs i (j+1) fs:=by
 refine⟨p.ok,p.nd,fun f hf=>?_,?_⟩
 ·obtain⟨i',j',h,r⟩:=p.old f hf;exact⟨i',j',by lia,r⟩
 ·have:=p.uB;split<;>split at this<;>lia
theorem yB{zs:List Str}(hn:zs.Nodup){i j:Nat}{x:Str}(h1:zs[i]?=some x)(h2:zs[j]?=some x):i=j:=by
 obtain⟨a1,b1⟩:=ZX h1;obtain⟨a2,b2⟩:=ZX h2;exact(List.getElem_inj hn).mp (b1.trans b2.symm)
theorem cZ.add{zs:List Str}{i j:Nat}{fs:List Form}(p:cZ zs i j fs)(hn:zs.Nodup)(hw:∀z∈zs,s_ z=true){x y:Str}(hx:zs[i]?=some x)(hy:zs[j]?=some y)(cG:¬x=y){pr:Int}(h0:0≤pr)(h1:pr≤999999):
  cZ zs i (j+1) (fs++[(x,y,pr)]):=by
 have mV:i≠j:=fun e=>cG (by subst e;rw[hx]at hy;exact WK hy)
 refine⟨fun f hf=>?_,?_,fun f hf=>?_,?_⟩
 ·rcases List.mem_append.mp hf with h|h
  ·exact p.ok f h
  ·have h:f=(x,y,pr):=by simpa using h
   rw[h];have a1:=hw x (WI hx);have a2:=hw y (WI hy);simp[Dx,iy,a1,a2,cG,inR,h0,h1]
 ·rw[List.map_append];refine List.nodup_append.mpr ⟨p.nd,IM,fun a ha b hb e=>?_⟩;have hb:b=lh (x,y,pr):=by simpa using hb
  rw[e,hb]at ha;obtain⟨f,hf,ef⟩:=Zt ha;obtain⟨e1,e2⟩:=(wM f x y).mp ef;obtain⟨i',j',h,r1,r2⟩:=p.old f hf;rw[e1]at r1;rw[e2]at r2;have:=yB hn r1 hx;have:=yB hn r2 hy
  lia
 ·rcases List.mem_append.mp hf with h|h
  ·obtain⟨i',j',h,r⟩:=p.old f h;exact⟨i',j',by lia,r⟩
  ·have h:f=(x,y,pr):=by simpa using h
   rw[h];exact⟨i,j,by lia,hx,hy⟩
 ·have:=p.uB;rw[List.length_append];show fs.length+1+_≤_;split<;>split at this<;>lia
theorem cZ.row{zs:List Str}{i:Nat}{fs:List Form}(p:cZ zs i zs.length fs)(hi:i<zs.length):cZ zs (i+1) 0 fs:=by
 refine⟨p.ok,p.nd,fun f hf=>?_,?_⟩
 ·obtain⟨i',j',h,r⟩:=p.old f hf;exact⟨i',j',by lia,r⟩
 ·have h:=p.uB;rw[HB hi]at h;rw[Dt D9,Nat.succ_mul]
  lia
theorem cZ.good{zs:List Str}{fs:List Form}(p:cZ zs zs.length 0 fs)(h:zs.length≤8):bO fs=true:=by
 have h1:=p.uB;have h2:zs.length*(zs.length-1)≤8*7:=Nat.mul_le_mul h D9;rw[Dt D9]at h1;have h3:fs.length≤60:=by lia
 have h4:fs.all Dx=true:=List.all_eq_true.mpr p.ok;simp[bO,h3,h4,p.nd]
theorem Ab{fs:List Form}(h:bO fs=true):Short fs:=by
 simp only[bO,Bool.and_eq_true,decide_eq_true_eq,List.all_eq_true]at h;refine⟨by lia,fun f hf=>?_⟩;have h1:=h.1.2 f hf;simp only[Dx,iy,s_,Bool.and_eq_true,decide_eq_true_eq]at h1
 lia
inductive wR(vs:List V)(H:Hp)(Q:VK)(u3:XK):Prop
 |mk (cell same:Int) (b:Addr) (zs:List Str) (_:vs=[.int cell, .ref b, .int same]) (_:H b=some (.lst (zs.map V.str))) (_:zs.length≤8) (_:(∀z∈zs,s_ z=true)) (_:zs.Nodup) (_:1≤same) (_:same≤999999) (_:∀H' l xs fs,av H H'→H l=none→H' l=some (.lst xs)→dQ H' xs fs→bO fs=true→Q (.ref l) H'):wR vs H Q u3
inductive tq(vs:List V)(H:Hp)(Q:VK)(u3:XK):Prop
 |mk (x y:Str) (same:Int) (l:Addr) (xs:List V) (fs:List Form) (_:vs=[.str x, .str y, .int same, .ref l]) (_:H l=some (.lst xs)) (_:dQ H xs fs) (_:Q (bB (cY same fs x y)) H):tq vs H Q u3
theorem mf{zs:List Str}{i:Nat}{v:V}(h:(zs.map V.str)[i]?=some v):∃x,zs[i]?=some x∧v= .str x:=by
 rw[List.getElem?_map]at h;cases e:zs[i]? with
 |none=>rw[e]at h;cases h
 |some x=>rw[e]at h;exact⟨x,rfl,(WK h).symm⟩
theorem EI{fs:List Form}{x y:Str}(h:∀f∈fs,¬(f.1=x∧f.2.1=y)):dX fs x y=none:=by
 have:fs.find? (fun f=>decide (f.1=x∧f.2.1=y))=none:=by
  rw[List.find?_eq_none];intro f hf;simpa using h f hf
 unfold dX;rw[this];rfl
theorem rq:∀{fs:List Form}{i:Nat}{x y x0 y0:Str}{p:Int},fs[i]?=some (x0,y0,p)→(∀f∈fs.take i,¬(f.1=x∧f.2.1=y))→(x0=x∧y0=y)→dX fs x y=some p
 |f::r,0,x,y,x0,y0,p,h,_,e=>by
  have h:f=(x0,y0,p):=by simpa using h
  rw[h];simp[dX,List.find?_cons,e.1,e.2]
 |f::r,i+1,x,y,x0,y0,p,h,hn,e=>by
  have h1:¬(f.1=x∧f.2.1=y):=hn f Mi;have:=rq (fs:=r) (i:=i) (x:=x) (y:=y) (by simpa using h) (fun g hg=>hn g (by simp[hg])) e;simpa[dX,List.find?_cons,h1]using this
def sw(f:Form):Form:=(f.2.1,f.1,f.2.2)
inductive ny(K:W.Frag)(vs:List V)(H:Hp)(Q:VK)(u3:XK):Prop
 |mk (a:Addr) (ns:List Int) (k:Int) (_:vs=[.ref a, .int k]) (_:il K H a (ns.map V.int)) (_:0≤k) (_:∀H' D (s o i l:Int),av H H'→H D=none→H' D=some (.lst [.int s, .int o, .int i, .int l])→(1≤s∧s≤999999)→(0≤o∧o≤999999)→(0≤i∧i≤999999)→(1≤l∧l≤999999)→Q (.ref D) H'):ny K vs H Q u3
theorem ky.same{H H':Hp}{C x:Addr}{n:Nums}{fs:List Form}{dx l d:Addr}{xs:List V}(T:ky H C x n fs dx l d xs)(s:av H H'):ky H' C x n fs dx l d xs:=⟨s _ _ T.ob,s _ _ T.own,s _ _ T.li,T.tr.same s,s _ _ T.di⟩
theorem Hq{is:List Int}(h:is.length=4):∃a b c d,is=[a,b,c,d]:=by
 match is,h with
 |[a,b,c,d],_=>exact⟨a,b,c,d,rfl⟩
theorem SameBut.Ac{x dx C:Addr}{H H':Hp}(hx:H x=none)(EJ:H dx=none)(s:SameBut x (L2.upd (L2.upd H dx (.own x)) x (.ins C dx [])) H'):av H H':=fun b u e=>by
 have n1:b≠x:=aC e hx;have n2:b≠dx:=aC e EJ;exact s b u n1 (by rw[aj n1,aj n2];exact e)
end QF
namespace L2
open PySem PySem.Spec PyProof.Rows PySem.W PySem.Calls
section
variable{X:Cx}{pins:List (Addr×Obj)}{σ:St}{H:Hp}{s:Shared}{h':Heap}
theorem Inv.Hr{t':Nat}{fp:List Addr}(I:Inv X pins σ H s)(hf:∀b∈fp,ir X pins H b)(k:∀b o,b∉fp→s.heap.get? b=some o→h'.get? b=some o):Inv X pins σ H {s with heap:=h',toks:=t'}:=by
 have IF:∀b u,H b=some u→b∉fp:=fun b u e z=>by rw[(hf b z).1]at e;cases e
 refine I.step (g':=s.gens) (d':=s.drawn) (ch:=fp) (fun b hb=>?_) (fun b o _ _ hc e _=>k b o hc e) (fun b o _ _ hc e _=>⟨o.slots,k b o hc e⟩) (fun _ _ _ _ n=>n)
  (fun b o hc e=>⟨o,k b o hc e⟩) (fun _ _ e=>e) (fun _ _ _ e=>e) (fun b ps e=>⟨#[],by rw[e];simp⟩) (fun m hm=>?_) (fun b u e=>?_) I.bare
 ·obtain⟨_,f1,_,f3,f4,f5⟩:=hf b hb;exact⟨f3,f1,f4,f5⟩
 ·obtain⟨o,es,ep,ho,r⟩:=hm;exact⟨o,es,ep,k _ o (fun z=>(hf _ z).2.1 rfl) ho,r⟩
 ·refine(I.bU b u e).v9 (fun c v hc q=>k c v ?_ q) (fun _ q=>q) fun _ _ q=>q
  rcases hc with z|z
  ·rw[z];exact IF b u e
  ·exact IF c _ z
theorem Inv.Bn{t':Nat}{fp:List Addr}{T:Addr}{u:HO}(I:Inv X pins σ H s)(hf:∀b∈fp,ir X pins H b)(hT:ir X pins H T)(k:∀b o,b∉fp→s.heap.get? b=some o→h'.get? b=some o)
  (new:cL X.prog X.w (upd H T u) h' T u):Inv X pins σ (upd H T u) {s with heap:=h',toks:=t'}:=by
 have IF:∀b u,H b=some u→b∉fp:=fun b u e z=>by rw[(hf b z).1]at e;cases e
 have nT:∀b v,H b=some v→b≠T:=fun b v e z=>by rw[z,hT.1]at e;cases e
 refine I.step (g':=s.gens) (d':=s.drawn) (ch:=T::fp) (fun b hb=>?_) (fun b o _ _ hc e _=>k b o (fun z=>hc (ZL z)) e) (fun b o _ _ hc e _=>⟨o.slots,k b o (fun z=>hc (ZL z)) e⟩) (fun b _ hc _ n=>?_)
  (fun b o hc e=>⟨o,k b o (fun z=>hc (ZL z)) e⟩) (fun b xs e=>by rw[aj (nT b _ e)];exact e) (fun b o v e=>by rw[aj (nT b _ e)];exact e) (fun b ps e=>⟨#[],by rw[aj (nT b _ e),e];simp⟩) (fun m hm=>?_) (fun b v e=>?_) I.bare
 ·rcases List.mem_cons.mp hb with z|z
  ·subst z;obtain⟨_,f1,_,f3,f4,f5⟩:=hT;exact⟨f3,f1,f4,f5⟩
  ·obtain⟨_,f1,_,f3,f4,f5⟩:=hf b z;exact⟨f3,f1,f4,f5⟩
 ·rw[aj (fun z=>hc (by simp[z]))];exact n
 ·obtain⟨o,es,ep,ho,r⟩:=hm;exact⟨o,es,ep,k _ o (fun z=>(hf _ z).2.1 rfl) ho,r⟩
 ·by_cases hb:b=T
  ·subst hb;rw[ae]at e;cases e;exact new
  ·rw[aj hb]at e;refine(I.bU b v e).v9 (fun c v' hc q=>k c v' ?_ q) (fun c q=>by rw[aj (nT c _ q)];exact q) fun c xs q=>by rw[aj (nT c _ q)];exact q
   rcases hc with z|z
   ·rw[z];exact IF b v e
   ·exact IF c _ z
theorem Inv.swap{d:Addr}{u u':HO}(I:Inv X pins σ H s)(e:H d=some u)(ht:∀xs,u≠ .tup xs)(ho:∀x,u≠ .own x)(hb:∀ps,u≠ .GF ps)(hf:∀o v,X.eU d≠some (.sj o v))(new:cL X.prog X.w (upd H d u') s.heap d u'):Inv X pins σ (upd H d u') s:=by
 have nd:∀b,H b=none→b≠d:=fun b n z=>by rw[z,e]at n;cases n
 have nt:∀b xs,H b=some (.tup xs)→b≠d:=fun b xs q z=>by rw[z,e]at q;cases q;exact ht xs rfl
 have no:∀b x,H b=some (.own x)→b≠d:=fun b xs q z=>by rw[z,e]at q;cases q;exact ho xs rfl
 refine⟨I.ok,I.os,I.bare,⟨I.base.keep,I.base.slot,fun b o q n hx=>?_,I.base.there,fun b xs q=>?_,fun b o v q=>?_,fun b ps q=>?_⟩,I.loc,I.cell,?_,fun x c q=>?_,fun p hp=>?_,fun b v q=>?_,I.len⟩
 ·have z:=I.base.free b o q n hx;rw[aj (nd b z)];exact z
 ·have z:=I.base.cA b xs q;rw[aj (nt b xs z)];exact z
 ·have z:=I.base.oj b o v q;rw[aj (fun y=>by subst y;exact hf o v q)];exact z
 ·obtain⟨m,z⟩:=I.base.rL b ps q;exact⟨m,by rw[aj (fun y=>by rw[y,e]at z;cases z;exact hb _ rfl)];exact z⟩
 ·rw[aj (nd _ I.free)];exact I.free
 ·rw[aj (nd _ (I.mO x c q))];exact I.mO x c q
 ·obtain⟨p1,p2,p3⟩:=I.pin p hp;exact⟨p1,by rw[aj (nd _ p2)];exact p2,p3⟩
 ·by_cases UQ:b=d
  ·subst UQ;rw[ae]at q;cases q;exact new
  ·rw[aj UQ]at q;exact(I.bU b v q).v9 (fun c v' _ z=>z) (fun c z=>by rw[aj (no c _ z)];exact z) fun c xs z=>by rw[aj (nt c _ z)];exact z
end
def Mu(K:Frag)(a:Addr):It:=
 ⟨fun i H=>∃xs x,il K H a xs∧xs[i]?=some x,fun i H x H'=>∃T y,x= .ref T∧H T=none∧H'=upd H T (.tup [.int i,y])∧∀xs,il K H a xs→xs[i]?=some y,fun i H=>∃xs,il K H a xs∧xs.length≤i⟩
theorem Cy{P:Program}{w:World}{K:Frag}{elts:List Expr}{n:Nat}{pos:Pos}(a e it:Addr)(cG:e≠it):
  Turn P w K (.Tuple elts n pos) (Mu K a) [e,it] e (fun i h=>(∃old,IsEnum h e it (i:Nat) old)∧h.IsListIter it a i) where
 mem:=IM
 obj:=fun i h st b hb=>by
  obtain⟨⟨old,s1⟩,o,s2,_,s3⟩:=st;rcases List.mem_cons.mp hb with z|z
  ·subst z;exact⟨_,s1,fun v z=>by
    have z':Data.fields _=Data.cell v:=z;cases z'⟩
  ·have e:b=it:=by simpa using z
   subst e;exact⟨o,s2,fun v z=>by rw[s3]at z;cases z⟩
 keep:=fun i h h' st k=>⟨⟨st.1.choose,k e Mi _ st.1.choose_spec⟩,st.2.at fun o q=>k it (IM) o q⟩
 item:=by
  intro X hP hw hK hc i pins s σ H E I hf st hg;subst hP hw hK;obtain⟨xs,x,hq,hx⟩:=hg;obtain⟨⟨old,s1⟩,s2⟩:=st;obtain⟨its,rv,p,hz⟩:=I.list hq;obtain⟨u,hu,ru⟩:=rv.get hx;refine wpAny_pyNext_enum_item s1 s2 p.isList (x:=u) (by simpa using hu) cG fun h' o1 o2 o3 o4 o5=>?_
  refine⟨_,rfl,wpAny_letOwnedTupleGo_enum (s:={s with heap:=h',toks:=s.toks+1}) o1 fun h2 q1 q2=>?_⟩;have vF:h2.get? s.heap.objs.size=some {cls:=Value.type "tuple",data:=Data.seq #[Value.int (↑i) s.toks,u]}:=by
   exact(q2.2 _ (Nat.ne_of_gt (Y8 s1))).trans o3
  have hT:ir X pins H s.heap.objs.size:=I.uF YH (I.bU.fresh YH);have I1:Inv X pins σ (upd H s.heap.objs.size (.tup [.int i,x])) {s with heap:=h2,toks:=s.toks+1}:=by
   refine I.Bn hf hT (fun b o hb q=>?_) ⟨by simp[sizeLine],[Value.int (↑i) s.toks,u], .cons ⟨_,rfl⟩ (.cons ru .nil),?_⟩
   ·have b1:b≠e:=fun z=>hb (by simp[z])
    have b2:b≠it:=fun z=>hb (by simp[z])
    exact(q2.2 b b1).trans (o5 b o b1 b2 q)
   ·exact⟨_,vF,rfl,_,rfl⟩
  refine⟨.ref s.heap.objs.size,_,I1,rfl,⟨_,x,rfl,hT.1,rfl,fun ys hy=>by rw[I.ym hy hq];exact hx⟩,⟨⟨u,by simpa using q1⟩,o2.at fun o q=>(q2.2 it (WR cG)).trans q⟩,fun b hb=>?_⟩;rw[aj (fun z=>?_)]
  ·exact(hf b hb).1
  ·have h1:=Heap.lt_size s1;obtain⟨_,h2,_⟩:=s2;have h3:=Y8 h2;rcases List.mem_cons.mp hb with y|y
   ·rw[z.symm.trans y]at h1;exact V' h1 (Nat.lt_irrefl _)
   ·have:b=it:=by simpa using y
    rw[z.symm.trans this]at h3;exact V' h3 (Nat.lt_irrefl _)
 done:=by
  intro X hP hw hK hc i pins s σ H E I hf st hg;subst hP hw hK;obtain⟨xs,hq,hx⟩:=hg;obtain⟨⟨old,s1⟩,s2⟩:=st;obtain⟨its,rv,p,hz⟩:=I.list hq;have hl:=rv.length;exact wpAny_pyNext_enum_end (I.ok.hd hc) s1 s2 p.isList Zc fun h' eb=>⟨rfl,I.Hr (t':=s.toks) hf (fun b o hb q=>eb b o (fun z=>hb (by simp[z])) q)⟩
 self:=fun _ _ _ _ _ st h=>wpAny_pyIter_enum st.1.choose_spec h
section
variable{X:Cx}{tg:Expr}
def Jf(K:Frag)(ta:TA):TI:=fun σ H R=>ta σ H fun vs H1=>∃a,vs=[.ref a]∧(∃xs,il K H1 a xs)∧R (Mu K a) H1
theorem Hs{elts:List Expr}{n:Nat}{tp:Pos}{a:Expr}{ta:TA}{p pos:Pos}(hg:Gl X "enumerate")(hm:X.mg "enumerate"=none)(ha:PA X [a] ta)(hs:starEach [a] X.env=[(false,eval a X.env)]:=by rfl):
  PI X (.Tuple elts n tp) (.Call (.Name "enumerate" p) [a] [] pos) (Jf X.K ta):=by
 intro pins s σ H R I h;refine Call_ (lA I hg hm boot_enumerate (PyProof.Rows.callWith_type1 (cD (ha pos pins s σ H _ I h) fun us s1 ⟨vs,H1,I1,r1,q1⟩=>?_) hs rfl));obtain⟨l,e,⟨xs,hq⟩,q⟩:=q1;subst e;cases r1 with
 |cons r rr=>
  cases rr;cases r;obtain⟨its,rv,p,hz⟩:=I1.list hq;refine call_enumerate_list p.isList fun h' o1 o2 o3 o4=>?_
  refine wpAny_pyIter_enum (s:={s1 with heap:=h'}) o1 ?_;refine⟨s1.heap.objs.size+1,[s1.heap.objs.size+1,s1.heap.objs.size],_,_,H1,rfl,I1.kept (t':=s1.toks) o4,Cy l _ _ (Nat.succ_ne_self _),⟨⟨_,o1⟩,o2⟩,fun b hb=>?_,q⟩;have Mw:s1.heap.objs.size≤b:=by
   rcases List.mem_cons.mp hb with y|y
   ·rw[y];exact Nat.le_succ _
   ·have:b=s1.heap.objs.size:=by simpa using y
    exact Nat.le_of_eq this.symm
  exact I1.uF Mw (I1.bU.fresh Mw)
end
theorem oO{X:Cx}(K:Frag){elts:List Expr}{n:Nat}{tp:Pos}{a:Expr}{ta:TA}{p pos:Pos}(hg:Gl X "enumerate")(hm:X.mg "enumerate"=none)(ha:PA X [a] ta)(hs:starEach [a] X.env=[(false,eval a X.env)]:=by rfl)(h:X.K=K:=by rfl):
  PI X (.Tuple elts n tp) (.Call (.Name "enumerate" p) [a] [] pos) (Jf K ta):=h▸Hs hg hm ha hs
theorem yC{K:Frag}{a:Addr}{xs:List V}{g:TG}{tb:TS}{D:Ends}{σ:St}{H:Hp}(Pv:Nat→St→Hp→Prop)(h0:Pv 0 σ H)(hl:∀i σ H,i≤xs.length→Pv i σ H→il K H a xs)
  (hs:∀i x T σ H,xs[i]?=some x→Pv i σ H→H T=none→g (.ref T) σ (upd H T (.tup [.int i,x])) fun fA H2=>tb {D with nx:=Pv (i+1),ct:=Pv (i+1),bk:=D.nx} fA H2) (hd:∀σ H,Pv xs.length σ H→D.nx σ H):
  ∃W:Nat→Nat→St→Hp→Prop,(∃m,W 0 m σ H)∧∀i m σ H,W i m σ H→
   ((Mu K a).stop i H∧D.nx σ H)∨((Mu K a).go i H∧∃N:St→Hp→Prop,(∀bx H',N bx H'→∃m',m'<m∧W (i+1) m' bx H')∧∀x H',(Mu K a).GI i H x H'→g x σ H' fun fA H2=>tb {D with nx:=N,ct:=N,bk:=D.nx} fA H2):=by
 refine⟨fun i m σ H=>m=xs.length-i∧i≤xs.length∧Pv i σ H,⟨xs.length,IM,Nat.zero_le _,h0⟩,?_⟩;rintro i m σ H ⟨rfl,hi,p⟩;have hq:=hl i σ H hi p;by_cases hZ:i<xs.length
 ·refine .inr ⟨⟨xs,xs[i],hq,by simp[hZ]⟩,Pv (i+1),fun bx H' p'=>⟨xs.length-(i+1),by lia,rfl,hZ,p'⟩,fun x H' y=>?_⟩;obtain⟨T,y,rfl,hT,rfl,hy⟩:=y;exact hs i y T σ H (hy xs hq) p hT
 ·have e:i=xs.length:=by lia
  subst e;exact .inl ⟨⟨xs,hq,Nat.le_refl _⟩,hd σ H p⟩
def NF(eU:Hp)(d:Addr):Prop:=∀o v,eU d≠some (.sj o v)
section
variable{X:Cx}{tg:Expr}
end
end L2
namespace QF
open PySem L2
inductive wU(K:W.Frag)(vs:List V)(H:Hp)(Q:VK)(u3:XK):Prop
 |mk (a b:Addr) (ns:List Int) (zs:List Str) (c p m:Int) (_:vs=[.ref a, .int c, .int p, .int m, .ref b]) (_:il K H a (ns.map V.int)) (_:H b=some (.lst (zs.map V.str))) (_:(1≤zs.length∧zs.length≤1000)) (_:0≤p) (_:0≤m) (_:m≤1000) (_:∀H' l (ws:List Str),av H H'→H l=none→H' l=some (.lst (ws.map V.str))→ws.length=m.toNat→(∀w∈ws,w∈zs)→Q (.ref l) H'):wU K vs H Q u3
end QF
namespace L2
open PySem PySem.Spec PyProof.Rows PySem.W PySem.Calls
section
variable{X:Cx}
theorem Ht(K:Frag){T:String}{name:Str}{id:String}{r:V→List V→Hp→VK→Prop}{o:Expr}{apos eD:Pos}{to:TE}(pa:PlainAttrs T)(slot:Slot T name id)(Dv:typeOf (.builtin id)=pure (.type "method_descriptor"))(hm:PX X id r)(ho:PE X o to)
  (oE:attributeBase o name X.env (eval o X.env)=eval o X.env:=by rfl) (oF:(apos.endLine==eD.line)=true:=by rfl) (hK:X.K=K:=by rfl):PE X (.Call (.Attribute o name apos) [] [] eD) (NN K T r to):=hK▸KH pa slot Dv hm ho oE oF
end
end L2
namespace QF
open PySem L2
def RU(c:Nat):Bool:=decide (65≤c)&&decide (c≤90)
def conv(c:Nat):Nat:=if low c=true then c else if RU c=true then c+32 else 32
abbrev great:Str:=Zk "ABCDEFGHIJKLMNOPQRSTUVWXYZ"
def rd(st:KWd.St)(cs:List Nat):KWd.St:=(cs.map conv).foldl KWd.step st
abbrev both:Str:=Zk "abcdefghijklmnopqrstuvwxyzABCDEFGHIJKLMNOPQRSTUVWXYZ"
abbrev marks:Str:=Zk " .,-'0123456789!?()[]{}@`_~/:;<=>#$&*+|^\\\""
end QF
namespace L2
open PySem PySem.Spec PyProof.Rows PySem.W PySem.Calls
section
variable{X:Cx}
def UR(xs ys:List V)(f:Nat→Bool):Prop:=∀(j:Nat)(x y:V),xs[j]?=some x→ys[j]?=some y→(rp x=true∧rp y=true∧f j=wA x y)∨(∃a,x= .ref a∧y= .ref a∧f j=true)
theorem EK{A:Around}{s:Shared}{xs ys:List V}{its dB:List Value}{f:Nat→Bool}(r:Vals xs its)(r2:Vals ys dB)(h:UR xs ys f):
  ∀j (h1:j<its.toArray.size) (h2:j<dB.toArray.size),SeqAt.EqAt A s its.toArray[j] dB.toArray[j] (f j):=fun j h1 h2=>by
 have Jg:j<xs.length:=by have:=r.length;simp at h1;lia
 have Jh:j<ys.length:=by have:=r2.length;simp at h2;lia
 obtain⟨a1,e1,q1⟩:=r.get (i:=j) (x:=xs[j]) (by simp[Jg]);obtain⟨a2,e2,q2⟩:=r2.get (i:=j) (x:=ys[j]) (by simp[Jh]);have g1:its.toArray[j]=a1:=by simpa[List.getElem?_eq_some_iff]using(ZX e1).2
 have g2:dB.toArray[j]=a2:=by simpa[List.getElem?_eq_some_iff]using(ZX e2).2
 rw[g1,g2];rcases h j xs[j] ys[j] (by simp[Jg]) (by simp[Jh])with⟨f1,f2,ef⟩|⟨a,ex,ey,ef⟩
 ·rw[ef];exact wB q1 q2 f1 f2
 ·rw[ef];rw[ex]at q1;rw[ey]at q2;cases q1;cases q2;exact SeqAt.EqAt.same _
inductive Oc(K:Frag)(x:V)(y:V)(H:Hp)(Q:VK):Prop
 |mk (p:_) (q:_) (xs:_) (ys:_) (f:_) (_:x= .ref p) (_:y= .ref q) (_:il K H p xs) (_:il K H q ys) (_:UR xs ys f) (_:Q (.bl (decide (xs.length=ys.length)&&(X_ xs.length).all f)) H):Oc K x y H Q
theorem yD(K:Frag)(hu:X.A.units<cLine)(hK:X.K=K:=by rfl):rM X (compareOp .Eq) (Oc K):=by
 subst hK;intro pins s σ H x y v u Q I rx ry h;obtain⟨p,q,xs,ys,f,rfl,rfl,hp,hq,hf,k⟩:=h;cases rx;cases ry;obtain⟨its,r,pl,hz⟩:=I.list hp;obtain⟨dB,r2,Hl,Je⟩:=I.list hq;have l1:=r.length;have l2:=r2.length;obtain⟨⟨cls,dd,data,sl⟩,ho,hc,n,hd⟩:=id pl.isList;obtain⟨⟨EC,rO,data2,mR⟩,sE,qc,n2,hd2⟩:=id Hl.isList;simp only at hc hd qc hd2;subst hc hd qc hd2;by_cases e:xs.length=ys.length
 ·have hsz:its.toArray.size=dB.toArray.size:=by rw[List.size_toArray,List.size_toArray];lia
  refine richCompare_meets_room (op:= .Eq) ⟨_,ho,rfl⟩ ⟨_,sE,rfl⟩ F.slot_list_eq F.entry_list_eq (F.args_list_eq_2 _ _) (SeqAt.list_eqAt p q its.toArray dB.toArray n n2 dd rO sl mR hsz f) ⟨ho,sE,EK r r2 hf,?_⟩ hu;rw[Zn e,Bool.true_and]at k;refine⟨(fun x=>nomatch x), .bl ((X_ xs.length).all f),H,I,?_,k⟩;rw[List.size_toArray,←l1];rfl
 ·have hsz:(its.toArray.size !=dB.toArray.size)=true:=by
   rw[List.size_toArray,List.size_toArray];simp;lia
  refine richCompare_meets_room (op:= .Eq) ⟨_,ho,rfl⟩ ⟨_,sE,rfl⟩ F.slot_list_eq F.entry_list_eq (F.args_list_eq_2 _ _) (SeqAt.list_eq_lengthsAt p q its.toArray dB.toArray n n2 dd rO sl mR hsz) ⟨ho,sE,?_⟩ hu;rw[Zs e,Bool.false_and]at k;exact⟨(fun x=>nomatch x), .bl false,H,I,rfl,k⟩
end
section
variable{X:Cx}
end
end L2
namespace QF
open PySem L2
abbrev Pr:=Int×Int
def iE(p:Pr):List V:=[.int p.1, .int p.2]
def fK(H:Hp)(vs:List V)(ps:List Pr):Prop:=vs.length=ps.length∧∀(i:Nat)(p:Pr),ps[i]?=some p→∃t,vs[i]?=some (V.ref t)∧H t=some (.tup (iE p))
theorem fK.nil{H:Hp}:fK H [] []:=⟨rfl,fun i f e=>by simp at e⟩
theorem fK.cA{H H':Hp}{xs:List V}{fs:List Pr}(T:fK H xs fs)(k:cO H H'):fK H' xs fs:=⟨T.1,fun i f e=>let ⟨b,h1,h2⟩:=T.2 i f e;⟨b,h1,k _ _ h2⟩⟩
theorem fK.same{H H':Hp}{xs:List V}{fs:List Pr}(t:fK H xs fs)(s:av H H'):fK H' xs fs:=t.cA (cO.same s)
theorem fK.append{H:Hp}{xs ys:List V}{fs gs:List Pr}(T:fK H xs fs)(U:fK H ys gs):fK H (xs++ys) (fs++gs):=by
 refine⟨by simp[T.1,U.1],fun i p e=>?_⟩;by_cases h:i<fs.length
 ·rw[ZA h]at e;obtain⟨b,h1,h2⟩:=T.2 i p e;exact⟨b,by rw[ZA (by rw[T.1];exact h)];exact h1,h2⟩
 ·rw[ZF D9]at e;obtain⟨b,h1,h2⟩:=U.2 _ p e;exact⟨b,by rw[ZF (by rw[T.1];lia),T.1];exact h1,h2⟩
theorem fK.one{H:Hp}{t:Addr}{p:Pr}(ht:H t=some (.tup (iE p))):fK H [.ref t] [p]:=by
 refine⟨rfl,fun i q e=>?_⟩
 match i,e with
 |0,e=>cases e;exact⟨t,rfl,ht⟩
 |i+1,e=>simp at e
theorem fK.snoc{H:Hp}{xs:List V}{fs:List Pr}{t:Addr}{f:Pr}(T:fK H xs fs)(ht:H t=some (.tup (iE f))):fK H (xs++[.ref t]) (fs++[f]):=T.append (.one ht)
def pr(ps:List Pr)(k:Nat):Pr:=ps.getD k (0,0)
theorem Ji{ps:List Pr}{k:Nat}(h:k<ps.length):ps[k]?=some (pr ps k):=by
 simp[pr,h]
theorem fK.K5{H:Hp}{xs:List V}{ps:List Pr}(T:fK H xs ps){k:Nat}(h:k<ps.length):∃t,xs[k]?=some (V.ref t)∧H t=some (.tup [.int (pr ps k).1, .int (pr ps k).2]):=T.2 k _ (Ji h)
theorem gW{ps:List Pr}{p:Pr}{k:Nat}(h:k<ps.length):pr (ps++[p]) k=pr ps k:=by
 simp[pr,List.getD_eq_getElem?_getD,ZA h]
theorem sF{ps:List Pr}{p:Pr}:pr (ps++[p]) ps.length=p:=by
 simp[pr,List.getD_eq_getElem?_getD]
structure Case where
 xs:List Str
 ys:List Str
 same:Int
 out:Int
 into:Int
 least:Int
 fs:List Form
structure jr(H:Hp)(a:Addr)(c:Case)(f g m l:Addr)(vs:List V):Prop where
 ca:H a=some (.lst [.ref f, .ref g, .ref m, .ref l])
 fi:H f=some (.lst (c.xs.map V.str))
 se:H g=some (.lst (c.ys.map V.str))
 nu:H m=some (.lst [.int c.same, .int c.out, .int c.into, .int c.least])
 ne:H l=some (.lst vs)
 tr:dQ H vs c.fs
theorem jr.keep{H H':Hp}{a:Addr}{c:Case}{f g m l:Addr}{vs:List V}(C:jr H a c f g m l vs)(s:av H H'):jr H' a c f g m l vs:=⟨s _ _ C.ca,s _ _ C.fi,s _ _ C.se,s _ _ C.nu,s _ _ C.ne,C.tr.same s⟩
structure eF(most:Nat)(c:Case):Prop where
 x:c.xs.length≤most
 y:c.ys.length≤most
 good:bO c.fs=true
 same:1≤c.same∧c.same≤999999
 out:0≤c.out∧c.out≤999999
 into:0≤c.into∧c.into≤999999
 least:1≤c.least∧c.least≤999999
def wd(xs:List Str)(i:Int):Option Str:=if 0≤i then xs[i.toNat]? else none
theorem tw{xs:List Str}{i:Nat}:wd xs (i:Int)=xs[i]?:=by simp[wd]
theorem vM{xs:List Str}{i:Int}(h0:0≤i)(h:i<(xs.length:Int)):∃x,wd xs i=some x∧so (xs.map V.str) i=some (.str x):=by
 obtain⟨j,rfl⟩:=Int.eq_ofNat_of_zero_le h0;have hj:j<xs.length:=by lia
 exact⟨xs[j],by rw[tw];simp[hj],ar (by simp[hj])⟩
theorem Bo{xs:List Str}{i:Int}{x:Str}(h:wd xs i=some x):0≤i∧i<(xs.length:Int):=by
 unfold wd at h;split at h
 ·have:=(ZX h).1
  lia
 ·cases h
def Case.pw(c:Case)(p:Pr):Option Int:=(wd c.xs p.1).bind fun x=>(wd c.ys p.2).bind fun y=>cY c.same c.fs x y
theorem Case.pw_of{c:Case}{p:Pr}{x y:Str}(h1:wd c.xs p.1=some x)(h2:wd c.ys p.2=some y):c.pw p=cY c.same c.fs x y:=by simp[Case.pw,h1,h2]
theorem Case.pw_in{c:Case}{p:Pr}{w:Int}(h:c.pw p=some w):(0≤p.1∧p.1<(c.xs.length:Int))∧(0≤p.2∧p.2<(c.ys.length:Int)):=by
 unfold Case.pw at h;cases e1:wd c.xs p.1 with
 |none=>rw[e1]at h;cases h
 |some x=>
  cases e2:wd c.ys p.2 with
  |none=>rw[e1,e2]at h;cases h
  |some y=>exact⟨Bo e1,Bo e2⟩
theorem Case.pw_out{c:Case}{p:Pr}(h:¬((0≤p.1∧p.1<(c.xs.length:Int))∧(0≤p.2∧p.2<(c.ys.length:Int)))):c.pw p=none:=by
 cases e:c.pw p with
 |none=>rfl
 |some w=>exact V' (c.pw_in e) h
def stepOk(q p:Pr):Bool:=decide (q.1<p.1)&&decide (q.2<p.2)
def Case.gap(c:Case)(q p:Pr):Int:=c.out*(p.1-q.1-1)+c.into*(p.2-q.2-1)
def dC(c:Case)(ps:List Pr)(k:Nat):Bool:=(c.pw (pr ps k)).isSome&&(decide (k=0)||stepOk (pr ps (k-1)) (pr ps k))
def lH(c:Case)(ps:List Pr)(n:Nat):Prop:=∀k,k<n→dC c ps k=true
def kZ(c:Case)(ps:List Pr):Bool:=!ps.isEmpty&&(X_ ps.length).all (dC c ps)
def dE(c:Case)(ps:List Pr):Nat→Int
 |0=>(c.pw (pr ps 0)).getD 0
 |k+1=>(c.pw (pr ps (k+1))).getD 0+dE c ps k-c.gap (pr ps k) (pr ps (k+1))
theorem mh{c:Case}{ps:List Pr}(h:ps≠[])(g:lH c ps ps.length):kZ c ps=true:=by
 have h1:ps.isEmpty=false:=by simpa using h
 have h2:(X_ ps.length).all (dC c ps)=true:=List.all_eq_true.mpr fun k hk=>g k (by simpa using hk)
 simp[kZ,h1,h2]
theorem EL{c:Case}{ps:List Pr}{k:Nat}(hk:k<ps.length)(g:dC c ps k=false):kZ c ps=false:=by
 have h2:(X_ ps.length).all (dC c ps)=false:=by
  rw[Bool.eq_false_iff];intro z;rw[List.all_eq_true]at z;rw[z k (by simpa using hk)]at g;cases g
 simp[kZ,h2]
theorem kz{c:Case}{ps:List Pr}(h:kZ c ps=true):ps≠[]∧lH c ps ps.length:=by
 simp only[kZ,Bool.and_eq_true,List.all_eq_true]at h;refine⟨fun z=>by subst z;simp at h,fun k hk=>h.2 k (by simpa using hk)⟩
theorem lH.next{c:Case}{ps:List Pr}{n:Nat}(h:lH c ps n)(g:dC c ps n=true):lH c ps (n+1):=fun k hk=>by
 by_cases e:k=n
 ·rw[e];exact g
 ·exact h k (by lia)
theorem Hu{c:Case}{ps:List Pr}{k:Nat}(h:dC c ps k=true):∃w,c.pw (pr ps k)=some w:=by
 simp only[dC,Bool.and_eq_true]at h;exact Option.isSome_iff_exists.mp h.1
theorem Cz{c:Case}{ps:List Pr}{p:Pr}(g:lH c ps ps.length)(h:(c.pw p).isSome=true)(f:ps=[]∨stepOk (pr ps (ps.length-1)) p=true):lH c (ps++[p]) (ps.length+1):=fun k hk=>by
 by_cases e:k<ps.length
 ·have:=g k e;simp only[dC]at this⊢;rw[gW e];by_cases k0:k=0
  ·subst k0;simpa using this
  ·rw[gW (by lia:k-1<ps.length)];exact this
 ·have:k=ps.length:=by lia
  subst this;simp only[dC];rw[sF,h];rcases f with f|f
  ·subst f;rfl
  ·by_cases e0:ps.length=0
   ·simp[e0]
   ·rw[gW D9,f];simp
structure Jj(c:Case):Prop where
 out:0≤c.out∧c.out≤999999
 into:0≤c.into∧c.into≤999999
theorem eF.num{m:Nat}{c:Case}(h:eF m c):Jj c:=⟨h.out,h.into⟩
def yE(H:Hp)(CT t:Addr)(c:Case):Prop:=∃n dx l d vs,ky H CT t n c.fs dx l d vs∧n.same=c.same∧n.out=c.out∧n.into=c.into∧n.least=c.least
theorem yE.keep{H H':Hp}{CT t:Addr}{c:Case}(T:yE H CT t c)(s:av H H'):yE H' CT t c:=by
 obtain⟨n,dx,l,d,vs,T,r⟩:=T;exact⟨n,dx,l,d,vs,T.same s,r⟩
inductive tD(K:W.Frag)(vs:List V)(H:Hp)(Q:VK)(u3:XK):Prop
 |mk (a b x:Addr) (ns:List Int) (zs ws:List Str) (c p m:Int) (_:vs=[.ref a, .int c, .int p, .int m, .ref x, .ref b]) (_:il K H a (ns.map V.int)) (_:H b=some (.lst (zs.map V.str))) (_:H x=some (.lst (ws.map V.str))) (_:(1≤zs.length∧zs.length≤1000)) (_:ws.length≤1000) (_:(∀w∈ws,w∈zs)) (_:0≤p) (_:0≤m) (_:m≤1000) (_:∀H' l (ws:List Str),av H H'→H l=none→H' l=some (.lst (ws.map V.str))→ws.length=m.toNat→(∀w∈ws,w∈zs)→Q (.ref l) H'):tD K vs H Q u3
inductive wV(K:W.Frag)(vs:List V)(H:Hp)(Q:VK)(u3:XK):Prop
 |mk (a:Addr) (ns:List Int) (most:Int) (_:vs=[.ref a, .int most]) (_:il K H a (ns.map V.int)) (_:0≤most) (_:most≤40) (_:∀H' b c f g m l us,av H H'→H b=none→jr H' b c f g m l us→eF most.toNat c→Q (.ref b) H'):wV K vs H Q u3
inductive qt(C:Addr)(vs:List V)(H:Hp)(Q:VK)(u3:XK):Prop
 |mk (a:Addr) (c:Case) (f g m l:Addr) (us:List V) (most:Nat) (_:vs=[.ref a]) (_:jr H a c f g m l us) (_:eF most c) (_:∀H' t,av H H'→yE H' C t c→Q (.ref t) H'):qt C vs H Q u3
inductive qu(vs:List V)(H:Hp)(Q:VK)(u3:XK):Prop
 |mk (a:Addr) (us:List V) (ps:List Pr) (_:vs=[.ref a]) (_:H a=some (.lst us)) (_:fK H us ps) (_:Q (.bl true) H):qu vs H Q u3
inductive tE(vs:List V)(H:Hp)(Q:VK)(u3:XK):Prop
 |mk (a w:Addr) (c:Case) (f g m l:Addr) (us:List V) (ws:List V) (ps:List Pr) (_:vs=[.ref a, .ref w]) (_:jr H a c f g m l us) (_:H w=some (.lst ws)) (_:fK H ws ps) (_:ps.length≤10000) (_:∀H',av H H'→Q (.bl (kZ c ps)) H'):tE vs H Q u3
inductive qv(vs:List V)(H:Hp)(Q:VK)(u3:XK):Prop
 |mk (a w:Addr) (c:Case) (f g m l:Addr) (us:List V) (ws:List V) (ps:List Pr) (_:vs=[.ref a, .ref w]) (_:jr H a c f g m l us) (_:Jj c) (_:H w=some (.lst ws)) (_:fK H ws ps) (_:ps.length≤10000) (_:kZ c ps=true) (_:Q (.int (dE c ps (ps.length-1))) H):qv vs H Q u3
end QF
namespace L2
open PySem PySem.Spec PyProof.Rows PySem.W PySem.Calls
section
variable{pg:Program}{wd:World}{Ar:Around}{Rs:Result→Shared→Prop}{it:Addr}{fp wr:List Addr}{n:Nat}{Pv:Nat→Value→Prop}{Sv:Nat→Heap→Prop}
def wX:(toString "max"++toString ".loop":String)="max.loop":=Nn
theorem CA(Wk:Walks pg wd Ar.in1 it fp wr n Pv Sv)(bt:Nat→Nat→Bool)(cmp:CmpOf pg wd Ar.in1 .Gt Pv bt)(B:Addr)(nb:B∉fp)(dv:Value):
  ∀(k j:Nat)(st:Shared)(old:List Value)(c:Nat),n-j=k→j≤n→Sv j st.heap→((j=0∧old=[])∨∃vb,0<j∧old=[vb,vb]∧Pv (argBest bt (j-1)) vb)→
  st.heap.get? B=some {cls:= .type "list",dict:=none,data:= .seq old.toArray c,slots:=#[]}→
  (∀v h' tk,((n=0∧v=dv)∨(0<n∧Pv (argBest bt (n-1)) v))→(∀b o,b∉wr→b≠B→st.heap.get? b=some o→h'.get? b=some o)→Rs (.ok (.ret v)) {st with heap:=h',toks:=tk})→
  codeAny (model pg wd) Ar (.builtin "max.loop" ⟨[.ref it, .none, .ref B],[("default",dv)]⟩) Rs st:=by
 have nw:B∉wr:=fun z=>nb (Wk.sub _ z)
 intro k
 induction k with
 |zero=>
  intro j st old c ek lj sv ol eB fin;have ej:j=n:=by lia
  subst ej;refine codeAny_builtin F.entry_max_loop ?_;rw[Around.under_plainId F.plain_max_loop _];show wpAny _ Ar.in1 (seqItems? (.ref B)>>=_) _ _ st;refine wpAny_bind (wpAny_seqItems eB rfl ?_);show wpAny _ Ar.in1 (tryCatch (pyNext (.ref it)) _>>=_) _ _ st;refine wpAny_bind (wpAny_tryCatch (Wk.done st _ _ sv fun h' tk kp=>?_));rcases ol with⟨z0,rfl⟩|⟨vb,z0,rfl,pb⟩
  ·refine wpAny_bind (wpAny_rule (W0 ?_));exact fin dv _ tk (.inl ⟨z0,rfl⟩) fun b o hb _ e=>kp b o hb e
  ·have K6:=kp B _ nw eB;show wpAny _ Ar.in1 (updateSeq B (fun _=>#[])>>=_) _ _ _;refine wpAny_bind ?_;refine wpAny_updateSeq K6 rfl (Xz (wpAny_letGo (W0 ?_)));exact fin vb _ tk (.inr ⟨z0,pb⟩) fun b o hb hB e=>(Heap.get?_update_other _ _ (WR hB)).trans (kp b o hb e)
 |succ k ih=>
  intro j st old c ek lj sv ol eB fin;have lt:j<n:=by lia
  refine codeAny_builtin F.entry_max_loop ?_;rw[Around.under_plainId F.plain_max_loop _];show wpAny _ Ar.in1 (seqItems? (.ref B)>>=_) _ _ st;refine wpAny_bind (wpAny_seqItems eB rfl ?_);show wpAny _ Ar.in1 (tryCatch (pyNext (.ref it)) _>>=_) _ _ st;refine wpAny_bind (wpAny_tryCatch (Wk.item j st _ _ lt sv fun v h' tk pv Se kp=>?_));have K6:=kp B _ nw eB;have up:∀(g:Array Value→Array Value)(b:Addr),b∈fp→∀o,h'.get? b=some o→(h'.update B (Obj.mapSeq g)).get? b=some o:=fun g b hb o e=>(Heap.get?_update_other _ _ (fun z:B=b=>nb (by rw[z];exact hb))).trans e
  rcases ol with⟨rfl,rfl⟩|⟨vb,z0,rfl,pb⟩
  ·show wpAny _ Ar.in1 (updateSeq B (fun _=>#[v,v])>>=_) _ _ _;refine wpAny_bind ?_;refine wpAny_updateSeq K6 rfl ?_;rw[wX];refine wpAny_pure ⟨plainId_quiet F.plain_max_loop _,ih 1 _ [v,v] _ (by lia) lt (Wk.frame _ _ _ Se (up _)) (.inr ⟨v,Nn,rfl,pv⟩) (Heap.get?_update_self _ K6 rfl) fun v' h2 Od pf Oe=>?_⟩;exact fin v' h2 Od pf fun b o hb hB e=>Oe b o hb hB ((Heap.get?_update_other _ _ (WR hB)).trans (kp b o hb e))
  ·obtain⟨i,rfl⟩:∃i,j=i+1:=⟨j-1,by lia⟩
   have pb:Pv (argBest bt i) vb:=pb;show wpAny _ Ar.in1 (tryCatch (holding [v,v] (richCompare .Gt v vb>>=_)) _>>=_) _ _ _;refine wpAny_bind (wpAny_tryCatch (wpAny_holding (Xz (cmp (i+1) (argBest bt i) v vb _ _ _ pv pb ?_))));refine wpAny_bind (wpAny_holding (wpAny_truthy_bool ?_));refine wpAny_bind (wpAny_letGo (W0 ?_));cases hb:bt (i+1) (argBest bt i)with
   |true=>
    simp only[if_true];refine wpAny_bind ?_;refine wpAny_updateSeq K6 rfl (Xz (wpAny_letGo ?_));rw[wX];refine wpAny_pure ⟨plainId_quiet F.plain_max_loop _,ih (i+2) _ [v,v] _ (by lia) lt (Wk.frame _ _ _ Se (up _)) (.inr ⟨v,by lia,rfl,?_⟩) (Heap.get?_update_self _ K6 rfl) fun v' h2 Od pf Oe=>?_⟩
    ·show Pv (argBest bt (i+1)) v;simp only[argBest,hb,if_true];exact pv
    ·exact fin v' h2 Od pf fun b o hb hB e=>Oe b o hb hB ((Heap.get?_update_other _ _ (WR hB)).trans (kp b o hb e))
   |false=>
    simp only[Bool.false_eq_true,if_false];refine wpAny_bind (wpAny_letGo ?_);rw[wX];refine wpAny_pure ⟨plainId_quiet F.plain_max_loop _,ih (i+2) _ [vb,vb] c (by lia) lt Se (.inr ⟨vb,by lia,rfl,?_⟩) K6 fun v' h2 Od pf Oe=>?_⟩
    ·show Pv (argBest bt (i+1)) vb;simp only[argBest,hb,Bool.false_eq_true,if_false];exact pb
    ·exact fin v' h2 Od pf fun b o hb hB e=>Oe b o hb hB (kp b o hb e)
theorem CB(a d:Value):argsOk "max" ⟨[a],[("default",d)]⟩:=by unfold argsOk;kernel_rfl
end
section
variable{X:Cx}
def K7:Option Int→V
 |none=> .cJ
 |some i=> .int i
theorem Ad{is:List Int}{us:List Value}(r:Vals (is.map V.int) us):us.length=is.length∧∀(j:Nat)(v:Value),us[j]?=some v→∃t,v= .int (is.getD j 0) t:=by
 have hl:=r.length;rw[List.length_map]at hl;refine⟨hl.symm,fun j v e=>?_⟩;have hj:j<is.length:=by have:=(ZX e).1;lia
 obtain⟨u,eu,ru⟩:=r.get (i:=j) (x:= .int is[j]) (by simp[hj]);rw[e]at eu;cases eu;obtain⟨t,rfl⟩:=ru;exact⟨t,by simp[hj]⟩
theorem K8{is:List Int}{k:Nat}(hk:k<is.length)(h:∀j,j<is.length→is.getD j 0≤is.getD k 0):is.max?=some (is.getD k 0):=by
 rw[List.max?_eq_some_iff];refine⟨by simp[hk],fun b hb=>?_⟩;obtain⟨j,hj,rfl⟩:=Α hb;have:=h j hj;simpa[hj]using this
theorem CC(hc:X.calm=true){pins:List (Addr×Obj)}{s:Shared}{σ:St}{H:Hp}{a:Addr}{is:List Int}{Q:VK}(I:Inv X pins σ H s)(hq:il X.K H a (is.map V.int))(q:Q (K7 is.max?) H):
  wpAny (model X.prog X.w) X.A (call (.builtin "max") [.ref a] [("default", .none)]) (EP X pins σ Q) X.xe s:=by
 obtain⟨its,rv,p,hz⟩:=I.list hq;obtain⟨hl,hv⟩:=Ad rv;refine wpAny_call (codeAny_call_builtin F.plain_max F.entry_max ?_);simp only[checkBuiltinCall,F.kind_max];have body:wpAny (model X.prog X.w) X.A.in1 (Builtin.«max» ⟨[.ref a],[("default", .none)]⟩) (fun fin s'=>match fin with
   | .done f=>(match (Except.ok f:Result)with| .ok (.ret v)=>EP X pins σ Q v s'| .ok _=>False| .error e=>X.xe e s')
   | .again c'=>c'.quiet=true∧codeAny (model X.prog X.w) X.A c' (fun r s'=>match r with| .ok (.ret v)=>EP X pins σ Q v s'| .ok _=>False| .error e=>X.xe e s') s') X.xe s:=by
  show wpAny _ X.A.in1 (Builtin.Builtins.bindParams "max" ["key","default"] 0 ⟨[],[("default", .none)]⟩>>=_) _ _ s;refine wpAny_bind (wpAny_of_eq (show Builtin.Builtins.bindParams "max" ["key","default"] 0 ⟨[],[("default", .none)]⟩=pure [none,some .none]from rfl) ?_);refine wpAny_bind (W0 (Xz (wpAny_pyIter_list p.isList ?_)));have cG:a≠s.heap.objs.size:=by
   obtain⟨o,n,e,_⟩:=p;exact ZM (Y8 e)
  refine wpAny_bind (wpAny_newObj_type ?_);rw[wX];have eS:(s.heap.push {cls:= .type "list_iterator",data:= .fields #[.ref a, .int 0 0]}).objs.size=s.heap.objs.size+1:=by simp[Heap.push]
  have Wk:=Walks.list (prog:=X.prog) (w:=X.w) (A:=X.A.in1) (show X.A.in1.handled=none from I.ok.hd hc) s.heap.objs.size a cG its.toArray;refine wpAny_pure ⟨plainId_quiet F.plain_max_loop _,CA (pg:=X.prog) (wd:=X.w) Wk _ (CmpOf.ints_gt (fun j=>is.getD j 0) fun j v e=>hv j v (by simpa using e)) (s.heap.push {cls:= .type "list_iterator",data:= .fields #[.ref a, .int 0 0]}).objs.size ?_ .none _ 0 _ [] 0 rfl (Nat.zero_le _) ?_ (.inl ⟨rfl,rfl⟩) ?_ fun v h' tk pf kp=>?_⟩
  ·intro z;simp only[List.mem_cons,List.not_mem_nil,or_false]at z;rw[eS]at z;rcases z with z|z
   ·exact Nat.succ_ne_self _ z
   ·obtain⟨o,n,e,_⟩:=p;have lt:=Y8 e;rw[←z]at lt;exact Nat.lt_irrefl _ (Nat.lt_of_succ_lt lt)
  ·exact⟨⟨_,YG (Heap.get?_push_size _ rfl),rfl,rfl⟩,p.isList.at fun o e=>YG (YG e)⟩
  ·exact Heap.get?_push_size _ rfl
  ·have keep:∀b o,s.heap.get? b=some o→h'.get? b=some o:=fun b o e=>by
    have lt:=Y8 e;refine kp b o (fun z=>?_) (fun z=>?_) (YG (YG e))
    ·have z:b=s.heap.objs.size:=by simpa using z
     rw[z]at lt;exact Nat.lt_irrefl _ lt
    ·rw[z,eS]at lt;exact Nat.lt_irrefl _ (Nat.lt_of_succ_lt lt)
   have sz:its.toArray.size=is.length:=by simp[hl]
   rcases pf with⟨h0,rfl⟩|⟨h0,pf⟩
   ·have:is=[]:=List.length_eq_zero_iff.mp D9;subst this;exact⟨.cJ,H,I.kept (t':=tk) keep,rfl,q⟩
   ·rw[List.getElem?_toArray]at pf;obtain⟨t,rfl⟩:=hv _ v pf;obtain⟨b1,b2⟩:=argBest_gt (fun j=>is.getD j 0) (its.toArray.size-1);have em:=K8 (is:=is) (k:=argBest (fun i j=>decide (is.getD i 0>is.getD j 0)) (its.toArray.size-1)) (by lia) fun j hj=>b2 j D9
    rw[em]at q;exact⟨.int _,H,I.kept (t':=tk) keep,⟨t,rfl⟩,q⟩
 cases Sg:Manifest.signature? "max" with
 |none=>exact W0 body
 |some sig=>
  have ha:=CB (.ref a) .none;simp only[argsOk,Sg]at ha;have h2:Bind.checkArgs "max" sig ⟨[.ref a],[("default", .none)]⟩=pure ():=ha;show wpAny _ X.A.in1 (Bind.checkArgs "max" sig ⟨[.ref a],[("default", .none)]⟩) _ _ s;rw[h2];exact W0 body
def Of(K:Frag)(ta:TE):TE:=fun σ H Q=>ta σ H fun x H1=>∃(a:Addr)(is:List Int),x= .ref a∧il K H1 a (is.map V.int)∧Q (K7 is.max?) H1
theorem Hv(K:Frag){e:Expr}{ta:TE}{p pos kp cp:Pos}{j:Nat}(hc:X.calm=true)(hg:Gl X "max")(hm:X.mg "max"=none)(he:PE X e ta)(hs:starEach [e] X.env=[(false,eval e X.env)]:=by rfl)(hK:X.K=K:=by rfl):
  PE X (.Call (.Name "max" p) [e] [⟨some "default", .Constant .none j cp,kp⟩] pos) (Of K ta):=by
 subst hK;intro pins s σ H Q I h;refine wpAny_Call_Name_kw (lA I hg hm (PyProof.Rows.Boot.«max») ?_ ZO (Nn));rw[hs];refine callWith_builtin_kwB (first:=[]) rfl rfl (evalArgs_kwB rfl ?_);refine Calls.spliced_cons ?_;show wpAny _ _ (eval e X.env) _ _ s;refine cD Δ fun v s1 ⟨x,H1,I1,r1,q1⟩=>Calls.spliced_nil ?_
 obtain⟨a,is,rfl,hq,q⟩:=q1;cases r1;refine kws_cons ?_;refine Constant_none ?_;refine kws_nil ?_;exact CC hc I1 hq q
def uH:List V→List V→Bool
 |[],[]=>true
 |x::xs,y::ys=>wA x y&&uH xs ys
 | _,_=>false
theorem kC:∀(xs ys:List V),((X_ (min xs.length ys.length)).all (fun j=>wA (xs.getD j .cJ) (ys.getD j .cJ))&&xs.length==ys.length)=uH xs ys
 |[],[]=>rfl
 |[],y::ys=>by simp[uH]
 |x::xs,[]=>by simp[uH]
 |x::xs,y::ys=>by
  have ih:=kC xs ys;simp only[uH];rw[←ih];have e:min (x::xs).length (y::ys).length=min xs.length ys.length+1:=by simp[Nat.succ_min_succ]
  rw[e,List.range_succ_eq_map,List.all_cons,List.all_map];simp only[List.getD_cons_zero,Function.comp_def,List.getD_cons_succ,List.length_cons,Bool.and_assoc]
  congr 2
  simp
theorem tF{A:Around}{s:Shared}{xs ys:List V}{its dB:List Value}(r:Vals xs its)(r2:Vals ys dB)(f1:xs.all rp=true)(f2:ys.all rp=true):
  ∀j (h1:j<its.toArray.size) (h2:j<dB.toArray.size),SeqAt.EqAt A s its.toArray[j] dB.toArray[j] ((fun j=>wA (xs.getD j .cJ) (ys.getD j .cJ)) j):=by
 refine EK r r2 fun j x y hx hy=> .inl ⟨List.all_eq_true.mp f1 x (WI hx),List.all_eq_true.mp f2 y (WI hy),?_⟩
 simp[List.getD_eq_getElem?_getD,hx,hy]
open Classical in
theorem Vals.pick{xs:List V}{us:List Value}(r:Vals xs us):∀ks:List Nat,Vals (ks.filterMap (xs[·]?)) (ks.filterMap (us[·]?))
 |[]=> .nil
 |k::ks=>by
  have ih:=r.pick ks;cases e:xs[k]? with
  |none=>
   have:us[k]?=none:=uW (by have:=List.getElem?_eq_none_iff.mp e;have:=r.length;lia);rw[List.filterMap_cons_none e,List.filterMap_cons_none this];exact ih
  |some x=>
   obtain⟨u,eu,ru⟩:=r.get e;rw[List.filterMap_cons_some e,List.filterMap_cons_some eu];exact .cons ru ih
end
theorem vN{K:Frag}{a:Addr}{xs:List V}{ls:List Str}{js:List Nat}{g:TG}{tt:TT}{te:TE}{σ:St}{H1:Hp}{D:Addr}{Q:VK}(Pv:Nat→List V→St→Hp→Prop)
  (h0:Pv 0 [] (lD ls js σ) (upd H1 D (.lst []))) (hl:∀i ys σ H,i≤xs.length→Pv i ys σ H→il K H a xs)
  (hs:∀i x T ys σ H,xs[i]?=some x→Pv i ys σ H→H T=none→g (.ref T) σ (upd H T (.tup [.int i,x])) fun fA H3=>tt fA H3 fun b H4=>if b=true then te fA H4 fun y H5=>H5 D=some (.lst ys)∧ys.length<sizeLine∧Pv (i+1) (ys++[y]) fA (upd H5 D (.lst (ys++[y])))else Pv (i+1) ys fA H4)
  (hd:∀ys σ H,Pv xs.length ys σ H→Q (.ref D) H):
  sY (Mu K a) ls js g tt te σ H1 D Q:=
 oK (n:=xs.length) Pv h0 (fun i ys σ H hi p=>⟨xs,xs[i],hl i ys σ H (Nat.le_of_lt hi) p,by simp[hi]⟩) (fun ys σ H p=>⟨xs,hl _ ys σ H YH p,Nat.le_refl _⟩)
  (fun i ys σ H x H2 hi p y=>by
   obtain⟨T,z,rfl,hT,rfl,hy⟩:=y;exact hs i z T ys σ H (hy xs (hl i ys σ H (Nat.le_of_lt hi) p)) p hT) hd
end L2
namespace QF
open PySem L2
def fW(S:Int→Prop):Option Int→Prop
 |none=>∀v,¬S v
 |some m=>S m∧∀v,S v→v≤m
theorem fW.iff{S T:Int→Prop}{a:Option Int}(ha:fW S a)(h:∀v,S v↔T v):fW T a:=by
 cases a with
 |none=>exact fun v hv=>ha v ((h v).mpr hv)
 |some m=>exact⟨(h m).mp ha.1,fun v hv=>ha.2 v ((h v).mpr hv)⟩
def bA:Option Int→Int→Option Int
 |none,_=>none
 |some v,p=>some (v-p)
theorem fW.less{S:Int→Prop}{a:Option Int}(ha:fW S a)(p:Int):fW (fun v=>∃u,S u∧v=u-p) (bA a p):=by
 cases a with
 |none=>exact fun v ⟨u,hu,_⟩=>ha u hu
 |some m=>
  refine⟨⟨m,ha.1,rfl⟩,?_⟩;rintro v ⟨u,hu,rfl⟩;have:=ha.2 u hu
  lia
def oP(l:List (Option Int)):Option Int:=(l.filterMap id).max?
theorem kD(l:List (Option Int)):fW (fun v=>some v∈l) (oP l):=by
 have key:∀v,v∈l.filterMap id↔some v∈l:=fun v=>by
  rw[List.mem_filterMap];exact⟨fun⟨o,ho,eo⟩=>by have eo:o=some v:=eo;rw[eo]at ho;exact ho,fun h=>⟨some v,h,rfl⟩⟩
 unfold oP;cases e:(l.filterMap id).max? with
 |none=>
  rw[List.max?_eq_none_iff]at e;intro v hv;have:=(key v).mpr hv;rw[e]at this;cases this
 |some m=>
  rw[List.max?_eq_some_iff]at e;exact⟨(key m).mp e.1,fun v hv=>e.2 v ((key v).mpr hv)⟩
theorem fW.US{S T:Int→Prop}{a:Option Int}(ha:fW S a)(h1:∀v,S v→T v)(h2:∀v,T v→∃u,S u∧v≤u):fW T a:=by
 cases a with
 |none=>
  intro v hv;obtain⟨u,hu,_⟩:=h2 v hv;exact ha u hu
 |some m=>
  refine⟨h1 m ha.1,fun v hv=>?_⟩;obtain⟨u,hu,hle⟩:=h2 v hv;have:=ha.2 u hu
  lia
theorem yF{S1 S2 S3:Int→Prop}{a b c:Option Int}(h1:fW S1 a)(h2:fW S2 b)(h3:fW S3 c):fW (fun v=>S1 v∨S2 v∨S3 v) (oP [a,b,c]):=by
 refine(kD [a,b,c]).US (fun v hv=>?_) (fun v hv=>?_)
 ·simp only[List.mem_cons,List.not_mem_nil,or_false]at hv;rcases hv with e|e|e
  ·rw[←e]at h1;exact .inl h1.1
  ·rw[←e]at h2;exact .inr (.inl h2.1)
  ·rw[←e]at h3;exact .inr (.inr h3.1)
 ·have one:∀{S:Int→Prop}{o:Option Int},fW S o→S v→o∈[a,b,c]→∃u,some u∈[a,b,c]∧v≤u:=fun{S o} hm hs ho=>by
   cases o with
   |none=>exact V' hs (hm v)
   |some m=>exact⟨m,ho,hm.2 v hs⟩
  rcases hv with hs|hs|hs
  ·exact one h1 hs Mi
  ·exact one h2 hs Mi
  ·exact one h3 hs Mi
def j6(ps:List Pr):Pr:=pr ps (ps.length-1)
def wW(c:Case)(ps:List Pr):Int:=dE c ps (ps.length-1)
def oQ(c:Case)(shut:List Pr)(ps:List Pr):Prop:=kZ c ps=true∧∀p∈ps,p∉shut
def oh(c:Case)(shut:List Pr)(p:Pr):Option Int:=if p∈shut then none else c.pw p
theorem nB{ps:List Pr}{p:Pr}:j6 (ps++[p])=p:=by
 unfold j6;rw[List.length_append];exact sF
theorem tG{c:Case}{ps:List Pr}{p:Pr}:∀{k:Nat},k<ps.length→dE c (ps++[p]) k=dE c ps k
 |0,h=>by simp only[dE];rw[gW h]
 |k+1,h=>by simp only[dE];rw[gW h,gW (by lia:k<ps.length),tG (by lia:k<ps.length)]
theorem K9{c:Case}{p:Pr}{w:Int}(h:c.pw p=some w):wW c [p]=w:=by
 simp[wW,dE,pr,h]
theorem Hw{c:Case}{ps:List Pr}{p:Pr}{w:Int}(cG:ps≠[])(h:c.pw p=some w):wW c (ps++[p])=w+wW c ps-c.gap (j6 ps) p:=by
 have hp:0<ps.length:=List.length_pos_iff.mpr cG;obtain⟨k,hk⟩:∃k,ps.length=k+1:=⟨ps.length-1,by lia⟩
 have e1:(ps++[p]).length-1=k+1:=by rw[List.length_append];simp;lia
 unfold wW j6;rw[e1];have e2:pr (ps++[p]) (k+1)=p:=by rw[←hk];exact sF
 simp only[dE,e2,h,Option.getD_some];rw[gW (by lia:k<ps.length),tG (by lia:k<ps.length),hk];rfl
theorem oQ.one{c:Case}{shut:List Pr}{p:Pr}{w:Int}(h:oh c shut p=some w):oQ c shut [p]:=by
 unfold oh at h;split at h
 ·cases h
 ·rename_i hs
  refine⟨mh Mi fun k hk=>?_,fun q hq=>?_⟩
  ·have:k=0:=by simp at hk;exact hk
   subst this;simp[dC,pr,h]
  ·have:q=p:=by simpa using hq
   rw[this];exact hs
theorem oQ.snoc{c:Case}{shut:List Pr}{ps:List Pr}{p:Pr}{w:Int}(o:oQ c shut ps)(h:oh c shut p=some w)(st:stepOk (j6 ps) p=true):oQ c shut (ps++[p]):=by
 obtain⟨cG,hg⟩:=kz o.1;unfold oh at h;split at h
 ·cases h
 ·rename_i hs
  refine⟨mh Mi ?_,fun q hq=>?_⟩
  ·rw[List.length_append];exact Cz hg (by rw[h];rfl) (.inr st)
  ·rcases List.mem_append.mp hq with hq|hq
   ·exact o.2 q hq
   ·have:q=p:=by simpa using hq
    rw[this];exact hs
theorem yG{c:Case}{ps:List Pr}{p:Pr}{k:Nat}(h:k<ps.length):dC c (ps++[p]) k=dC c ps k:=by
 simp only[dC];rw[gW h,gW (by lia:k-1<ps.length)]
theorem oQ.split{c:Case}{shut:List Pr}{ps:List Pr}(o:oQ c shut ps):∃qs,ps=qs++[j6 ps]∧(∃w,oh c shut (j6 ps)=some w)∧(qs=[]∨(oQ c shut qs∧stepOk (j6 qs) (j6 ps)=true)):=by
 obtain⟨cG,hg⟩:=kz o.1;obtain⟨qs,p,rfl⟩:∃qs p,ps=qs++[p]:=⟨ps.dropLast,ps.getLast cG,(List.dropLast_concat_getLast cG).symm⟩
 rw[nB];have gl:=hg qs.length Mi;simp only[dC,sF,Bool.and_eq_true]at gl;refine⟨qs,rfl,?_,?_⟩
 ·obtain⟨w,hw⟩:=Option.isSome_iff_exists.mp gl.1;have:=o.2 p Mi;exact⟨w,by simp[oh,this,hw]⟩
 ·by_cases e:qs=[]
  ·exact .inl e
  ·have hp:0<qs.length:=List.length_pos_iff.mpr e;refine .inr ⟨⟨mh e fun k hk=>?_,fun q hq=>o.2 q (Zw hq)⟩,?_⟩
   ·have:=hg k (by simp;lia);rwa[yG hk]at this
   ·have g2:=gl.2;simp only[Bool.or_eq_true,decide_eq_true_eq]at g2;rcases g2 with g2|g2
    ·lia
    ·rw[gW (by lia:qs.length-1<qs.length)]at g2;exact g2
def Hx:Option Int→Option Int→Option Int
 |none,_=>none
 |some w,none=>some w
 |some w,some b=>if b<0 then some w else some (w+b)
def Bq(f:Nat→Nat→Option Int)(o p:Int):Nat→Nat→Option Int
 |0,_=>none
 | _+1,0=>none
 |i+1,j+1=>oP [Hx (f i j) (Bq f o p i j),bA Ε o,bA (Bq f o p (i+1) j) p]
termination_by i j=>(i,j)
def dD(f:Nat→Nat→Option Int)(o p:Int)(i j:Nat):Option Int:=Hx (f i j) (Bq f o p i j)
def iz(c:Case)(shut:List Pr)(i j:Nat):Option Int:=oh c shut ((i:Int),(j:Int))
theorem yH{q p:Pr}:stepOk q p=true↔q.1<p.1∧q.2<p.2:=by simp[stepOk]
theorem Hy(o:Option Int):K7 o=bB o:=by cases o<;>rfl
def f9(H:Hp)(vs:List V)(L:List (List Pr)):Prop:=vs.length=L.length∧∀(k:Nat)(ps:List Pr),L[k]?=some ps→∃a us,vs[k]?=some (V.ref a)∧H a=some (.lst us)∧fK H us ps
def Og(l:Addr)(vs:List V):Prop:=∀k:Nat,vs[k]?≠some (V.ref l)
theorem f9.nil{H:Hp}:f9 H [] []:=⟨rfl,fun k ps e=>by simp at e⟩
theorem f9.same{H H':Hp}{vs:List V}{L:List (List Pr)}(w:f9 H vs L)(s:av H H'):f9 H' vs L:=⟨w.1,fun k ps e=>let ⟨a,us,h1,h2,h3⟩:=w.2 k ps e;⟨a,us,h1,s _ _ h2,h3.same s⟩⟩
theorem f9.put{H:Hp}{vs:List V}{L:List (List Pr)}{l:Addr}{zs:List V}{o:HO}(w:f9 H vs L)(n:Og l vs)(h:H l=some (.lst zs)):f9 (upd H l o) vs L:=⟨w.1,fun k ps e=>by
 obtain⟨a,us,h1,h2,h3⟩:=w.2 k ps e;refine⟨a,us,h1,?_,h3.cA (cO.lst h)⟩;rw[aj (fun z=>n k (by rw[h1,z]))];exact h2⟩
theorem f9.append{H:Hp}{vs ws:List V}{L M:List (List Pr)}(a:f9 H vs L)(b:f9 H ws M):f9 H (vs++ws) (L++M):=by
 refine⟨by simp[a.1,b.1],fun i p e=>?_⟩;by_cases h:i<L.length
 ·rw[ZA h]at e;obtain⟨x,us,h1,h2⟩:=a.2 i p e;exact⟨x,us,by rw[ZA (by rw[a.1];exact h)];exact h1,h2⟩
 ·rw[ZF D9]at e;obtain⟨x,us,h1,h2⟩:=b.2 _ p e;exact⟨x,us,by rw[ZF (by rw[a.1];lia),a.1];exact h1,h2⟩
theorem f9.one{H:Hp}{a:Addr}{us:List V}{ps:List Pr}(h:H a=some (.lst us))(P:fK H us ps):f9 H [.ref a] [ps]:=by
 refine⟨rfl,fun i q e=>?_⟩
 match i,e with
 |0,e=>cases e;exact⟨a,us,rfl,h,P⟩
 |i+1,e=>simp at e
def c7(m:Nat)(f:Nat→Option Int):List V:=(X_ m).map fun j=>bB (f j)
theorem c_(m:Nat)(f:Nat→Option Int):(c7 m f).length=m:=by simp[c7]
theorem de{m j:Nat}{f:Nat→Option Int}(h:j<m):(c7 m f)[j]?=some (bB (f j)):=by simp[c7,h]
theorem qw(m:Nat)(f:Nat→Option Int):c7 (m+1) f=c7 m f++[bB (f m)]:=by simp[c7,List.range_succ]
structure i_(H:Hp)(as:List Addr)(f:Nat→Nat→Option Int)(n m:Nat):Prop where
 len:as.length=n
 row:∀(i:Nat)(a:Addr),as[i]?=some a→H a=some (.lst (c7 m (f i)))
theorem i_.same{H H':Hp}{as:List Addr}{f:Nat→Nat→Option Int}{n m:Nat}(t:i_ H as f n m)(s:av H H'):i_ H' as f n m:=⟨t.len,fun i a e=>s _ _ (t.row i a e)⟩
theorem i_.at{H:Hp}{as:List Addr}{f:Nat→Nat→Option Int}{n m i:Nat}(t:i_ H as f n m)(h:i<n):∃a,as[i]?=some a∧(as.map V.ref)[i]?=some (.ref a)∧H a=some (.lst (c7 m (f i))):=by
 have hi:i<as.length:=by rw[t.len];exact h
 refine⟨as[i],by simp[hi],by simp[hi],t.row i _ (by simp[hi])⟩
def Tab(H H':Hp)(e:Addr)(f:Nat→Nat→Option Int)(n m:Nat):Prop:=∃as:List Addr,H' e=some (.lst (as.map V.ref))∧H e=none∧i_ H' as f n m∧∀a∈as,H a=none
structure Bp(K:W.Frag)(C:Addr):Prop where
 cl:wg K C
 out:bY K C "out"
 into:bY K C "into"
 kE:bY K C "ending"
 jt:bY K C "brought"
def gI(o p:Int)(e b:Addr):List (Str×V):=[("out", .int o),("into", .int p),("ending", .ref e),("brought", .ref b)]
theorem Jk(o p:Int)(e b:Addr):(gI o p e b).lookup ("out":Str)=some (V.int o):=by kernel_rfl
theorem EM(o p:Int)(e b:Addr):(gI o p e b).lookup ("into":Str)=some (V.int p):=by kernel_rfl
theorem ie(o p:Int)(e b:Addr):(gI o p e b).lookup ("ending":Str)=some (V.ref e):=by kernel_rfl
theorem gO(o p:Int)(e b:Addr):(gI o p e b).lookup ("brought":Str)=some (V.ref b):=by kernel_rfl
theorem EN(o p:Int)(e b:Addr):(gI o p e b).lookup ("brought_behind":Str)=none:=by kernel_rfl
theorem Oh(o p:Int)(e b:Addr):bp "brought" (.ref b) (bp "ending" (.ref e) (bp "into" (.int p) (bp "out" (.int o) [])))=gI o p e b:=by kernel_rfl
def rP(f g:Nat→Option Int)(o p:Int):Nat→Option Int
 |0=>none
 |j+1=>oP [f j,bA (g (j+1)) o,bA (rP f g o p j) p]
theorem Br(f:Nat→Nat→Option Int)(o p:Int)(i:Nat):∀j,rP (dD f o p i) (Bq f o p i) o p j=Bq f o p (i+1) j
 |0=>by unfold rP Bq;rfl
 |j+1=>by
  rw[rP,Bq,Br f o p i j];rfl
theorem iJ(f:Nat→Nat→Option Int)(o p:Int)(j:Nat):Bq f o p 0 j=none:=by unfold Bq;rfl
inductive lI(vs:List V)(H:Hp)(Q:VK)(u3:XK):Prop
 |mk (a:Addr) (os:List (Option Int)) (_:vs=[.ref a]) (_:H a=some (.lst (os.map bB))) (_:os.length≤1000) (_:∀H',av H H'→Q (bB (oP os)) H'):lI vs H Q u3
inductive wY(vs:List V)(H:Hp)(Q:VK)(u3:XK):Prop
 |mk (o:Option Int) (p:Int) (_:vs=[bB o, .int p]) (_:Q (bB (bA o p)) H):wY vs H Q u3
inductive Ae(vs:List V)(H:Hp)(Q:VK)(u3:XK):Prop
 |mk (w b:Option Int) (_:vs=[bB w,bB b]) (_:Q (bB (Hx w b)) H):Ae vs H Q u3
inductive qx(C:Addr)(vs:List V)(H:Hp)(Q:VK)(u3:XK):Prop
 |mk (x e a dx te tb:Addr) (o p:Int) (m:Nat) (f g:Nat→Option Int) (_:vs=[.ref x, .ref e, .ref a]) (_:H x=some (.ins C dx (gI o p te tb))) (_:H e=some (.lst (c7 m f))) (_:H a=some (.lst (c7 (m+1) g))) (_:m≤1000) (_:∀H' r,av H H'→H r=none→H' r=some (.lst (c7 (m+1) (rP f g o p)))→Q (.ref r) H'):qx C vs H Q u3
def EO(H:Hp)(v:V)(shut:List Pr):Prop:=(v= .cJ∧shut=[])∨∃l us,v= .ref l∧H l=some (.lst us)∧fK H us shut
def a8(p:Pr):List Key:=[.inl p.1, .inl p.2]
def mW(kvs:List (List Key×V))(shut:List Pr):Prop:=∀p:Pr,(bu kvs (a8 p)).isSome=decide (p∈shut)
inductive wZ(vs:List V)(H:Hp)(Q:VK)(u3:XK):Prop
 |mk (v:V) (shut:List Pr) (_:vs=[v]) (_:EO H v shut) (_:shut.length≤1000) (_:∀H' d kvs,av H H'→H' d=some (.dT kvs)→mW kvs shut→Q (.ref d) H'):wZ vs H Q u3
theorem fK.last{H:Hp}{xs:List V}{ps:List Pr}(P:fK H xs ps)(cG:ps≠[]):∃t,so xs (-1)=some (.ref t)∧H t=some (.tup [.int (j6 ps).1, .int (j6 ps).2]):=by
 have hp:0<ps.length:=List.length_pos_iff.mpr cG;have hl:=P.1;obtain⟨t,h1,h2⟩:=P.K5 (k:=ps.length-1) (by lia);refine⟨t,?_,h2⟩;have e:xs=xs.take (ps.length-1)++[V.ref t]:=by
  apply List.ext_getElem?;intro n;by_cases hn:n<ps.length-1
  ·rw[ZA (by rw[List.length_take];lia),List.getElem?_take,HB hn]
  ·rw[ZF (by rw[List.length_take];lia),List.length_take];by_cases ya:n=ps.length-1
   ·subst ya;rw[h1];have:ps.length-1-min (ps.length-1) xs.length=0:=by lia
    rw[this];rfl
   ·rw[uW D9,uW Zc]
 rw[e];exact yw _ _
theorem w6(p q:Pr):uH (iE p) (iE q)=decide (p=q):=by
 simp only[iE,uH,wA,Bool.and_true];rw[Bool.eq_iff_iff];simp[Prod.ext_iff]
theorem ER{m j:Nat}{f:Nat→Option Int}{u:Option Int}:(c7 m f).set j (bB u)=c7 m (fun k=>if k=j then u else f k):=by
 apply List.ext_getElem?;intro k;by_cases hk:k<m
 ·rw[de hk];by_cases e:j=k
  ·subst e;rw[List.getElem?_set_self (by rw[c_];exact hk)];simp
  ·rw[List.getElem?_set_ne e,de hk];have:¬k=j:=fun z=>e z.symm
   simp[this]
 ·rw[uW (by rw[List.length_set,c_];lia),uW (by rw[c_];lia)]
end QF
namespace L2
open PySem PySem.Spec PyProof.Rows PySem.W PySem.Calls
section
variable{X:Cx}{tg:Expr}
end
section
variable{X:Cx}
end
section
variable{X:Cx}
end
end L2
namespace QF
open PySem L2
def Sh(fs:List Form)(x t:Str):Bool:=decide (x=t)||fs.any fun f=>(decide (f.1=x)&&decide (f.2.1=t))||(decide (f.1=t)&&decide (f.2.1=x))
def Oi(fs:List Form)(t:Str):List Str:=[t]++(fs.filter fun f=>decide (f.1=t)).map (·.2.1)++(fs.filter fun f=>decide (f.2.1=t)).map (·.1)
def Jl(p:Nat→Bool):Nat→Int
 |0=> -1
 |n+1=>if p n then(n:Int)else Jl p n
structure NS where
 ws:List Str
 ts:List Str
 fs:List Form
 span:Nat
def NS.p(c:NS)(t:Str)(i:Nat):Bool:=match c.ws[i]? with
 |some x=>Sh c.fs x t
 |none=>false
def NS.Oj(c:NS)(n:Nat):List Int:=c.ts.map fun t=>Jl (c.p t) n
def NS.low(c:NS)(n:Nat):Int:=((c.Oj n).min?).getD (-1)
def NS.at_(c:NS)(h:Nat):Option Pr:=if c.low h<c.low (h+1)∧(h:Int)-c.low (h+1)<c.span then some (c.low (h+1),(h:Int))else none
def NS.told(c:NS)(k:Nat):List Pr:=(X_ k).filterMap c.at_
def NS.holds(c:NS)(l h:Nat):Bool:=c.ts.all fun t=>(((c.ws.map fun x=>decide (x∈Oi c.fs t)).drop l).take (h-l)).any id
def NS.ok(c:NS)(l h:Nat):Bool:=c.holds l (h+1)&&!(c.holds (l+1) (h+1))&&!(c.holds l h)
def NS.row(c:NS)(l k:Nat):List Pr:=(X_ k).filterMap fun d=>if c.ok l (l+d)=true then some ((l:Int),((l+d:Nat):Int))else none
def NS.abc(c:NS)(i:Nat):List Pr:=(X_ i).flatMap fun l=>c.row l (min c.ws.length (l+c.span)-l)
end QF
namespace L2
open PySem PySem.Spec PyProof.Rows PySem.W PySem.Calls
section
variable{X:Cx}{tg:Expr}
end
section
variable{pg:Program}{wd:World}{Ar:Around}{sh:Shared}{Rs:Result→Shared→Prop}{it:Addr}{fp wr:List Addr}{Gn:Array GenState→Array GenState→Prop}{n:Nat}{Pv:Nat→Value→Prop}{Sv:Nat→Shared→Prop}
end
section
variable{X:Cx}
end
end L2
namespace QF
open PySem L2
def zw(q p:Pr):Prop:=q.1<p.1∧q.2<p.2
def gp(o i:Int)(q p:Pr):Int:=o*(p.1-q.1-1)+i*(p.2-q.2-1)
structure Wy(g:Pr→Option Int)(ps:List Pr):Prop where
 ne:ps≠[]
 ok:∀p∈ps,(g p).isSome=true
 up:ps.Pairwise zw
def vl(g:Pr→Option Int)(o i:Int):List Pr→Int
 |[]=>0
 |[p]=>(g p).getD 0
 |p::q::r=>(g p).getD 0-gp o i p q+vl g o i (q::r)
def gG(ps:List Pr):Pr:=ps.headD (0,0)
def lstP(ps:List Pr):Pr:=ps.getLastD (0,0)
theorem dI{ps:List Pr}{p:Pr}:lstP (ps++[p])=p:=by simp[lstP]
theorem sG(g:Pr→Option Int)(o i:Int)(q:Pr)(bs:List Pr):∀(as:List Pr),vl g o i (as++q::bs)=vl g o i (as++[q])+vl g o i (q::bs)-(g q).getD 0
 |[]=>by simp only[List.nil_append,vl];lia
 |[a]=>by
  simp only[List.cons_append,List.nil_append,vl]
  lia
 |a::b::r=>by
  have ih:=sG g o i q bs (b::r);simp only[List.cons_append]at ih⊢;simp only[vl];rw[ih]
  lia
theorem oR(g:Pr→Option Int)(o i:Int){ps:List Pr}(cG:ps≠[])(p:Pr):vl g o i (ps++[p])=(g p).getD 0+vl g o i ps-gp o i (lstP ps) p:=by
 obtain⟨qs,q,rfl⟩:∃qs q,ps=qs++[q]:=⟨ps.dropLast,ps.getLast cG,(List.dropLast_concat_getLast cG).symm⟩
 rw[dI,List.append_assoc];have:=sG g o i q [p] qs;simp only[List.singleton_append]at this⊢;rw[this];simp only[vl]
 lia
theorem Wy.one{g:Pr→Option Int}{p:Pr}(h:(g p).isSome=true):Wy g [p]:=by
 refine⟨IM,fun q hq=>?_,IM⟩;have e:q=p:=by simpa using hq
 rw[e];exact h
theorem qy{a b c:Pr}(h1:zw a b)(h2:zw b c):zw a c:=⟨Int.lt_trans h1.1 h2.1,Int.lt_trans h1.2 h2.2⟩
theorem pw_lst{ps:List Pr}(h:ps.Pairwise zw){q:Pr}(hq:q∈ps):q=lstP ps∨zw q (lstP ps):=by
 have cG:ps≠[]:=fun z=>by rw[z]at hq;cases hq
 obtain⟨qs,x,rfl⟩:∃qs x,ps=qs++[x]:=⟨ps.dropLast,ps.getLast cG,(List.dropLast_concat_getLast cG).symm⟩
 rw[dI];rcases List.mem_append.mp hq with hq|hq
 ·exact .inr ((Κ h).2.2 q hq x (IM))
 ·exact .inl (by simpa using hq)
theorem Wy.snoc{g:Pr→Option Int}{ps:List Pr}{p:Pr}(w:Wy g ps)(h:(g p).isSome=true)(s:zw (lstP ps) p):Wy g (ps++[p]):=by
 refine⟨IM,fun q hq=>?_,Γ ⟨w.up,IM,fun a ha b hb=>?_⟩⟩
 ·rcases List.mem_append.mp hq with hq|hq
  ·exact w.ok q hq
  ·have:q=p:=by simpa using hq
   rw[this];exact h
 ·have:b=p:=by simpa using hb
  rw[this];rcases pw_lst w.up ha with e|e
  ·rw[e];exact s
  ·exact qy e s
theorem Wy.split{g:Pr→Option Int}{ps:List Pr}(w:Wy g ps):∃qs,ps=qs++[lstP ps]∧(∃v,g (lstP ps)=some v)∧(qs=[]∨(Wy g qs∧zw (lstP qs) (lstP ps))):=by
 obtain⟨qs,x,rfl⟩:∃qs x,ps=qs++[x]:=⟨ps.dropLast,ps.getLast w.ne,(List.dropLast_concat_getLast w.ne).symm⟩
 rw[dI];refine⟨qs,rfl,Option.isSome_iff_exists.mp (w.ok x (IM)),?_⟩;by_cases e:qs=[]
 ·exact .inl e
 ·have h:=List.pairwise_append.mp w.up;refine .inr ⟨⟨e,fun q hq=>w.ok q (Zw hq),h.1⟩,h.2.2 _ ?_ x (IM)⟩;obtain⟨rs,y,rfl⟩:∃rs y,qs=rs++[y]:=⟨qs.dropLast,qs.getLast e,(List.dropLast_concat_getLast e).symm⟩
  rw[dI];simp
theorem cR{ps:List Pr}(h:ps≠[]):lstP ps∈ps:=by
 obtain⟨rs,y,rfl⟩:∃rs y,ps=rs++[y]:=⟨ps.dropLast,ps.getLast h,(List.dropLast_concat_getLast h).symm⟩
 rw[dI];simp
def lf(f:Nat→Nat→Option Int)(p:Pr):Option Int:=if 0≤p.1∧0≤p.2 then f p.1.toNat p.2.toNat else none
theorem qz(f:Nat→Nat→Option Int)(i j:Nat):lf f ((i:Int),(j:Int))=f i j:=by simp[lf]
theorem Bs{f:Nat→Nat→Option Int}{p:Pr}(h:(lf f p).isSome=true):∃i j:Nat,p=((i:Int),(j:Int)):=by
 unfold lf at h;split at h
 ·rename_i hh
  exact⟨p.1.toNat,p.2.toNat,Prod.ext Zc (by simp;lia)⟩
 ·cases h
def Qc(f:Nat→Nat→Option Int)(o p:Int)(i j:Nat)(v:Int):Prop:=∃ps,Wy Y6 ps∧(lstP ps).1<(i:Int)∧(lstP ps).2<(j:Int)∧v=vl Y6 o p ps-(o*((i:Int)-1-(lstP ps).1)+p*((j:Int)-1-(lstP ps).2))
def Qd(f:Nat→Nat→Option Int)(o p:Int)(q:Pr)(v:Int):Prop:=∃ps,Wy Y6 ps∧lstP ps=q∧v=vl Y6 o p ps
theorem Bt{f:Nat→Nat→Option Int}{o p:Int}{i j:Nat}{b:Option Int}(h:fW (Qc f o p i j) b):fW (Qd f o p ((i:Int),(j:Int))) (Hx (f i j) b):=by
 cases e:f i j with
 |none=>
  rintro v ⟨ps,w,el,rfl⟩;obtain⟨qs,_,⟨x,hx⟩,_⟩:=w.split;rw[el,qz,e]at hx;cases hx
 |some x=>
  have eg:lf f ((i:Int),(j:Int))=some x:=by rw[qz];exact e
  have Af:∀ps,Wy Y6 ps→lstP ps=((i:Int),(j:Int))→vl Y6 o p ps=x∨∃v,Qc f o p i j v∧vl Y6 o p ps=x+v:=fun ps w el=>by
   obtain⟨qs,eq,_,hq⟩:=w.split;rw[el]at eq hq;rcases hq with rfl|⟨wq,st⟩
   ·left
    rw[eq];simp[vl,eg]
   ·right
    refine⟨_,⟨qs,wq,st.1,st.2,rfl⟩,?_⟩;rw[eq,oR _ _ _ wq.ne,eg];simp only[gp,Option.getD_some];have e1:(i:Int)-(lstP qs).1-1=(i:Int)-1-(lstP qs).1:=by lia
    have e2:(j:Int)-(lstP qs).2-1=(j:Int)-1-(lstP qs).2:=by lia
    rw[e1,e2]
    lia
  have alone:Qd f o p ((i:Int),(j:Int)) x:=⟨[((i:Int),(j:Int))], .one (by rw[eg];rfl),rfl,by simp[vl,eg]⟩
  have more:∀v,Qc f o p i j v→Qd f o p ((i:Int),(j:Int)) (x+v):=by
   rintro v ⟨ps,w,l1,l2,rfl⟩;refine⟨ps++[((i:Int),(j:Int))],w.snoc (by rw[eg];rfl) ⟨l1,l2⟩,dI,?_⟩;rw[oR _ _ _ w.ne,eg];simp only[gp,Option.getD_some];have e1:(i:Int)-(lstP ps).1-1=(i:Int)-1-(lstP ps).1:=by lia
   have e2:(j:Int)-(lstP ps).2-1=(j:Int)-1-(lstP ps).2:=by lia
   rw[e1,e2]
   lia
  cases b with
  |none=>
   refine⟨alone,?_⟩;rintro v ⟨ps,w,el,rfl⟩;rcases Af ps w el with h1|⟨u,hu,_⟩
   ·lia
   ·exact V' hu (h u)
  |some m=>
   simp only[Hx];split
   ·refine⟨alone,?_⟩;rintro v ⟨ps,w,el,rfl⟩;rcases Af ps w el with h1|⟨u,hu,h2⟩
    ·lia
    ·have:=h.2 u hu
     lia
   ·refine⟨more m h.1,?_⟩;rintro v ⟨ps,w,el,rfl⟩;rcases Af ps w el with h1|⟨u,hu,h2⟩
    ·lia
    ·have:=h.2 u hu
     lia
theorem yI{f:Nat→Nat→Option Int}{ps:List Pr}(w:Wy Y6 ps):0≤(lstP ps).1∧0≤(lstP ps).2:=by
 obtain⟨a,b,e⟩:=Bs (w.ok _ (cR w.ne));rw[e];simp
theorem fX(f:Nat→Nat→Option Int)(o p:Int):∀i j:Nat,fW (Qc f o p i j) (Bq f o p i j)
 |0,j=>by
  unfold Bq;rintro v ⟨ps,w,l1,_⟩;have:=yI w;simp at l1
  lia
 |i+1,0=>by
  unfold Bq;rintro v ⟨ps,w,_,l2,_⟩;have:=yI w;simp at l2
  lia
 |i+1,j+1=>by
  rw[Bq];refine(yF (Bt (fX f o p i j)) ((fX f o p i (j+1)).less o) ((fX f o p (i+1) j).less p)).iff fun v=>?_
  constructor
  ·rintro(⟨ps,w,el,rfl⟩|⟨u,⟨ps,w,l1,l2,rfl⟩,rfl⟩|⟨u,⟨ps,w,l1,l2,rfl⟩,rfl⟩)
   ·refine⟨ps,w,by rw[el];simp;lia,by rw[el];simp;lia,?_⟩;rw[el];have e1:((i+1:Nat):Int)-1-(i:Int)=0:=by lia
    have e2:((j+1:Nat):Int)-1-(j:Int)=0:=by lia
    simp only[e1,e2,Int.mul_zero]
    lia
   ·refine⟨ps,w,by lia,by lia,?_⟩;have e1:((i+1:Nat):Int)-1-(lstP ps).1=((i:Int)-1-(lstP ps).1)+1:=by lia
    rw[e1,Int.mul_add]
    lia
   ·refine⟨ps,w,by lia,by lia,?_⟩;have e1:((j+1:Nat):Int)-1-(lstP ps).2=((j:Int)-1-(lstP ps).2)+1:=by lia
    rw[e1,Int.mul_add]
    lia
  ·rintro⟨ps,w,l1,l2,rfl⟩;by_cases h1:(lstP ps).1<(i:Int)
   ·right;left
    refine⟨_,⟨ps,w,h1,l2,rfl⟩,?_⟩;have e1:((i+1:Nat):Int)-1-(lstP ps).1=((i:Int)-1-(lstP ps).1)+1:=by lia
    rw[e1,Int.mul_add]
    lia
   ·by_cases h2:(lstP ps).2<(j:Int)
    ·right;right
     refine⟨_,⟨ps,w,l1,h2,rfl⟩,?_⟩;have e1:((j+1:Nat):Int)-1-(lstP ps).2=((j:Int)-1-(lstP ps).2)+1:=by lia
     rw[e1,Int.mul_add]
     lia
    ·left
     have a1:(lstP ps).1=(i:Int):=by lia
     have a2:(lstP ps).2=(j:Int):=by lia
     refine⟨ps,w,Prod.ext a1 a2,?_⟩;have e1:((i+1:Nat):Int)-1-(lstP ps).1=0:=by lia
     have e2:((j+1:Nat):Int)-1-(lstP ps).2=0:=by lia
     simp only[e1,e2,Int.mul_zero]
     lia
termination_by i j=>(i,j)
theorem tH(f:Nat→Nat→Option Int)(o p:Int)(i j:Nat):fW (Qd f o p ((i:Int),(j:Int))) (dD f o p i j):=Bt (fX f o p i j)
def fr(f:Nat→Nat→Option Int)(n m:Nat)(a b:Nat):Option Int:=if a<n∧b<m then f (n-1-a) (m-1-b)else none
def ko(n m:Nat)(p:Pr):Pr:=((n:Int)-1-p.1,(m:Int)-1-p.2)
def Gp(n m:Nat)(ps:List Pr):List Pr:=(ps.map (ko n m)).reverse
def Dy(f:Nat→Nat→Option Int)(n m:Nat):Prop:=∀i j,(f i j).isSome=true→i<n∧j<m
theorem w8(c:Case)(shut:List Pr)(p:Pr):lf (iz c shut) p=oh c shut p:=by
 unfold lf;split
 ·rename_i h
  unfold iz
  congr 1
  exact Prod.ext Zc (by simp;lia)
 ·rename_i h
  unfold oh;split
  ·rfl
  ·exact(c.pw_out D9).symm
theorem K_(c:Case)(shut:List Pr):Dy (iz c shut) c.xs.length c.ys.length:=fun i j h=>by
 unfold iz oh at h;split at h
 ·cases h
 ·obtain⟨w,hw⟩:=Option.isSome_iff_exists.mp h;have:=c.pw_in hw;simp at this
  lia
theorem Bu{ps:List Pr}(h:ps≠[]):j6 ps=lstP ps:=by
 obtain⟨qs,x,rfl⟩:∃qs x,ps=qs++[x]:=⟨ps.dropLast,ps.getLast h,(List.dropLast_concat_getLast h).symm⟩
 rw[nB,dI]
theorem Lb{c:Case}{shut:List Pr}{p:Pr}{w:Int}(h:oh c shut p=some w):c.pw p=some w∧p∉shut:=by
 unfold oh at h;split at h
 ·cases h
 ·rename_i hs
  exact⟨h,hs⟩
theorem w9{c:Case}{shut:List Pr}:∀{k:Nat}{ps:List Pr},ps.length=k→oQ c shut ps→Wy (oh c shut) ps∧wW c ps=vl (oh c shut) c.out c.into ps
 |0,ps,hk,o=>V' (List.length_eq_zero_iff.mp hk) (kz o.1).1
 |k+1,ps,hk,o=>by
  obtain⟨qs,eq,⟨w,hw⟩,hq⟩:=o.split;generalize j6 ps=p at eq hw hq;subst eq;have hp:=Lb hw;rcases hq with rfl|⟨oq,st⟩
  ·exact⟨.one (by rw[hw];rfl),by rw[List.nil_append,K9 hp.1];simp[vl,hw]⟩
  ·have hlen:qs.length=k:=by simpa using hk
   obtain⟨wq,vq⟩:=w9 hlen oq;have el:=Bu wq.ne;rw[yH,el]at st;refine⟨wq.snoc (by rw[hw];rfl) st,?_⟩;rw[Hw wq.ne hp.1,oR _ _ _ wq.ne,hw,vq,el];rfl
theorem Bv{c:Case}{shut:List Pr}:∀{k:Nat}{ps:List Pr},ps.length=k→Wy (oh c shut) ps→oQ c shut ps
 |0,ps,hk,w=>V' (List.length_eq_zero_iff.mp hk) w.ne
 |k+1,ps,hk,w=>by
  obtain⟨qs,eq,⟨v,hv⟩,hq⟩:=w.split;generalize lstP ps=p at eq hv hq;subst eq;rcases hq with rfl|⟨wq,st⟩
  ·exact .one hv
  ·have hlen:qs.length=k:=by simpa using hk
   exact(Bv hlen wq).snoc hv (yH.mpr (by rw[Bu wq.ne];exact st))
theorem yJ{c:Case}{shut:List Pr}{ps:List Pr}:oQ c shut ps↔Wy (lf (iz c shut)) ps:=by
 have:lf (iz c shut)=oh c shut:=by funext p;exact w8 c shut p
 rw[this];exact⟨fun o=>(w9 rfl o).1,fun w=>Bv rfl w⟩
theorem Hz{c:Case}{shut:List Pr}{ps:List Pr}(o:oQ c shut ps):wW c ps=vl (lf (iz c shut)) c.out c.into ps:=by
 have:lf (iz c shut)=oh c shut:=by funext p;exact w8 c shut p
 rw[this];exact(w9 rfl o).2
end QF
namespace L2
open PySem PySem.Spec PyProof.Rows PySem.W PySem.Calls
section
variable{X:Cx}
open Classical in
end
end L2
namespace QF
open PySem L2
theorem fK.first{H:Hp}{xs:List V}{ps:List Pr}(P:fK H xs ps)(cG:ps≠[]):∃t,so xs 0=some (.ref t)∧H t=some (.tup [.int (gG ps).1, .int (gG ps).2]):=by
 cases ps with
 |nil=>exact absurd rfl cG
 |cons p r=>
  obtain⟨t,h1,h2⟩:=P.2 0 p rfl;exact⟨t,ar (j:=0) h1,h2⟩
end QF
namespace L2
open PySem PySem.Spec PyProof.Rows PySem.W PySem.Calls
section
variable{prog:Program}{w:World}{κ:Type}[DecidableEq κ]{knd:HeapKind prog w κ}{A:Around}{E:Value→Shared→Prop}{s:Shared}
theorem vO{α β:Type}(f:α→β):∀(xs:List α)(j:Nat),(xs.eraseIdx j).map f=(xs.map f).eraseIdx j
 |[],_=>IM
 | _::_,0=>IM
 | _::r,j+1=>by simp[vO f r j]
theorem CD{xs:List (κ×Addr×Value)}(hn:(xs.map (·.1)).Nodup):∀{j:Nat}{k:κ}{p:Addr×Value},xs[j]?=some (k,p)→xs.eraseIdx j=xs.filter fun x=>decide (x.1≠k):=by
 induction xs with
 |nil=>intro j k p h;simp at h
 |cons x r ih=>
  intro j k p h;have DM:=List.nodup_cons.mp (by simpa using hn:(x.1::r.map (·.1)).Nodup);cases j with
  |zero=>
   have:x=(k,p):=by simpa using h
   subst this;have hf:r.filter (fun x=>decide (x.1≠k))=r:=List.filter_eq_self.mpr fun y hy=>by
    have:y.1≠k:=fun e=>DM.1 (qV ⟨y,hy,e⟩)
    simpa using this
   simp only[List.eraseIdx_cons_zero,List.filter_cons];rw[hf];simp
  |succ j=>
   have hj:r[j]?=some (k,p):=by simpa using h
   have hx:x.1≠k:=fun e=>DM.1 (e▸(qV ⟨(k,p),WI hj,rfl⟩))
   simp only[List.eraseIdx_cons_succ,List.filter_cons];rw[ih DM.2 hj,HB (by simpa using hx)]
theorem w_{d a:Addr}{xs:List (κ×Addr×Value)}{k:κ}{p:Addr×Value}{Q:Option DictEntry→Shared→Prop}(hu:knd.room A)(oz:knd.is s.heap k a)(hm:s.heap.DictOfH knd d xs)(hp:atKey xs k=some p)(hsz:xs.length≤sizeLine)
  (h:∀h' e,e.val=p.2→h'.DictOfH knd d (xs.filter fun x=>decide (x.1≠k))→Heap.SameBut d s.heap h'→Q (some e) {s with heap:=h',toks:=s.toks+knd.draws k}):wpAny (model prog w) A (Builtin.Dict.takeOut d (.ref a)) Q E s:=by
 obtain⟨o,es,ep,ho,hc,hd,he,Si,hn⟩:=hm;unfold Builtin.Dict.takeOut
 try with_reducible refine wpAny_holding ?_
 refine wpAny_bind (knd.pyHash hu oz ?_);refine wpAny_bind (wpAny_dictFind_heap (s:={s with toks:=s.toks+knd.draws k}) hu oz ho hd he Si hn ?_ ?_)
 ·intro CH;rw[atKey_none_of_get CH]at hp;cases hp
 ·intro j q hj;have eq:q=p:=by rw[atKey_of_get hn hj]at hp;exact WK hp
  subst eq;refine wpAny_bind (wpAny_dictEntries (s:={s with toks:=s.toks+knd.draws k}) ho hd ?_);rw[entry_at he j,hj];refine wpAny_bind (wpAny_updateDictKeys (hz:=by have e:=size_of_entries he;lia) (s:={s with toks:=s.toks+knd.draws k}) ho hd (wpAny_pure (h _ _ rfl ⟨_,_,ep+1,Heap.get?_update_self _ ho (Obj.isFreed_of_dict (Obj.data_mapDictKeys hd _)),
   hc.mapDictKeys _,Obj.data_mapDictKeys hd _,?_,?_,?_⟩ (Heap.SameBut.update ..))))
  ·rw[←CD hn hj,vO,←he];obtain⟨l⟩:=es;simp
  ·intro x hx;exact knd.keeps (Si x (List.mem_filter.mp hx).1) ho hd (Heap.SameBut.update ..)
  ·exact hn.sublist (List.filter_sublist.map _)
theorem Ag(d a:Addr):
  MeetsIn prog w (Builtin.«dict.pop» ⟨[.ref d, .ref a],[]⟩) (fun A R s=>knd.room A.in1∧∃k xs p,knd.is s.heap k a∧s.heap.DictOfH knd d xs∧xs.length≤sizeLine∧atKey xs k=some p∧
   ∀h',h'.DictOfH knd d (xs.filter fun x=>decide (x.1≠k))→Heap.SameBut d s.heap h'→R (.ok (.ret p.2)) {s with heap:=h',toks:=s.toks+knd.draws k}):=
 .of_wp fun A R s ⟨hu,k,xs,p,oz,hm,hsz,hp,h⟩=>by
  obtain⟨o,es,ep,ho,hc,hd,he,Si,hn⟩:=id hm;have cG:es.isEmpty=false:=by
   cases hx:xs with
   |nil=>rw[hx]at hp;cases hp
   |cons x r=>
    have:=size_of_entries he;rw[hx]at this;simp at this;rw[Array.isEmpty_eq_false_iff];intro e;rw[e]at this;simp at this
  unfold Builtin.«dict.pop»;refine wpAny_bind ?_;unfold Builtin.Dict.keyAndDefault;refine wpAny_bind (wpAny_notOrdered_dict hm.typeIs ?_);show wpAny _ _ (pure (d,Value.ref a,none)) _ _ s;refine wpAny_pure ?_;have Ol:(keyPart (Value.ref a)).isSome=false:=rfl;simp only[Ol,Bool.false_eq_true,if_false];refine wpAny_bind (wpAny_dictEntries ho hd (Xz (W0 ?_)));rw[cG];simp only[Bool.false_eq_true,if_false];refine wpAny_bind (w_ hu oz hm hp hsz fun h' e Xb Cq mU=>?_);simp only[Option.isNone_some,Bool.false_eq_true,if_false];exact Xz (wpAny_letGo (W0 ⟨e.val,rfl,by rw[Xb];exact h h' Cq mU⟩))
end
section
variable{X:Cx}{pins:List (Addr×Obj)}{σ:St}{H:Hp}{s:Shared}{a:Addr}{u:Value}{A:Around}{E:Value→Shared→Prop}{kvs:List (List Key×V)}
theorem KT.drop{xs:List (List Key×Addr×Value)}(r:KT H kvs xs)(k:List Key):KT H (i6 kvs k) (xs.filter fun x=>decide (x.1≠k)):=by
 unfold i6
 induction r with
 |nil=>exact .nil
 |cons z t ih=>
  simp only[List.filter_cons];rw[z.1];split
  ·exact .cons z ih
  ·exact ih
theorem Lc{v:V}{k:List Key}{b:Addr}{Q:Value→Shared→Prop}(hu:A.units+1<cLine)(I:Inv X pins σ H s)(e:H a=some (.dT kvs))(eb:H b=some (.tup (k.map kV)))(l:bu kvs k=some v)
  (h:∀w' s',Inv X pins σ (upd H a (.dT (i6 kvs k))) s'→RelV v w'→Q w' s'):wpAny (model X.prog X.w) A (call (.builtin "dict.pop") [.ref a, .ref b]) Q E s:=by
 obtain⟨z,hd,xs,rel,dd⟩:=IV I.bU e;have rv:=rel.val k;rw[l]at rv;obtain⟨w',hw,iY⟩:=kq.some_of rv;obtain⟨p,hp,rfl⟩:=Option.map_eq_some_iff.mp hw;refine call_meetsIn PySem.F.slot_dict_pop dd.typeIs PySem.F.entry_dict_pop (PySem.F.args_dict_pop_2 _ _) (Ag (knd:=tupleKind (cX X.prog X.w)) a b)
  ⟨tupleKind_room_in1 hu,k,xs,p,nk I.bU eb,dd,by rw[←Paired.length rel];exact z,hp,fun h' IW hs=>h _ _ ?_ iY⟩
 obtain⟨q,es,ep,hq,h2,h3,h4,_,h5⟩:=IW;refine wm I (by rw[e];exact True.intro) hs ⟨q,hq⟩ ⟨ZN (yt kvs k) z,hd,_,(rel.drop k).keeps fun c ys ec=>?_,q,es,ep,hq,h2,h3,h4,h5⟩;rw[aj (i5 ec e (fun z=>nomatch z))];exact ec
end
inductive Jm(x y:V)(H:Hp)(Q:VK):Prop
 |mk (a b:Addr) (kvs:List (List Key×V)) (k:List Key) (v:V) (_:x= .ref a) (_:y= .ref b) (_:H a=some (.dT kvs)) (_:H b=some (.tup (k.map kV))) (_:bu kvs k=some v) (_:Q v (upd H a (.dT (i6 kvs k)))):Jm x y H Q
def Om(td ty:TE):TE:=fun σ H Q=>td σ H fun x H1=>∃a,x= .ref a∧RB H1 a∧ty σ H1 fun y H2=>Jm x y H2 Q
theorem ES{X:Cx}{o e:Expr}{apos eD:Pos}{td ty:TE}(hu:X.A.units+1<cLine)(ho:PE X o td)(he:PE X e ty)(m:M1 X o "pop" apos e eD):PE X (.Call (.Attribute o "pop" apos) [e] [] eD) (Om td ty):=by
 intro pins s σ H Q I h;refine wpAny_Call_method m.base m.uB m.line PySem.F.plainAttrs_dict PySem.F.slot_dict_pop PySem.F.type_dict_pop (cD (ho pins s σ H _ I h) fun u s1 ⟨x,H1,I1,rx,a,ex,d,q1⟩=>?_);subst ex;obtain rfl:u=Value.ref a:=rx;obtain⟨t1,t2,_⟩:=D7 I1 d;refine⟨t1,t2,?_⟩;rw[m.trees];refine Calls.callWith_builtin rfl (Calls.evalArgs_plain (Calls.spliced_cons (cD (he pins s1 σ H1 _ I1 q1) fun iv s2 ⟨y,H2,I2,ry,q2⟩=>Calls.spliced_nil ?_)));obtain⟨a',b,kvs,k,v,e1,rfl,e2,e3,l,q⟩:=q2;cases e1;obtain rfl:iv=Value.ref b:=ry;exact Lc hu I2 e2 e3 l fun w' s3 I3 iY=>⟨v,_,I3,iY,q⟩
section
variable{prog:Program}{w:World}{A:Around}{E:Value→Shared→Prop}{s:Shared}{it d:Addr}{i ep:Nat}{od:Obj}{es:Array DictEntry}{Q:Option Value→Shared→Prop}
theorem ET(hit:s.heap.IsValIter it d i es.size ep)(Jn:s.heap.get? d=some od)(Jo:od.data= .dict es ep)(hi:i<es.size)
  (hQ:∀h',h'.IsValIter it d (i+1) es.size ep→Heap.SameBut it s.heap h'→Q (some es[i].val) {s with heap:=h'}):wpAny (model prog w) A (pyNext (.ref it)) Q E s:=by
 obtain⟨o,ho,hc,hd⟩:=id hit;have T:=hit.typeIs;have CH:Builtin.Dict_items.ownsTuple "dict_valueiterator"=false:=Nn;unfold pyNext;refine wpAny_bind υ;refine wpAny_bind (W0 (Xz (Xz ?_)));first|refine wpAny_bind (wpAny_typeNameOfWhole_valiter T (W0 ?_))|refine wpAny_bind (wpAny_typeNameOf_valiter T (W0 ?_))
 refine wpAny_bind (wpAny_fieldsOf ho hd ?_);simp only[CH,Bool.false_eq_true,if_false];show wpAny _ _ (if (Value.ref d==Value.none)=true then _ else _) _ _ s;rw[Dt (show ¬((Value.ref d==Value.none)=true)from Bool.false_ne_true)];refine wpAny_bind (W0 (Xz (wpAny_dictEntries Jn Jo ?_)));rw[if_neg Mi];refine wpAny_bind (W0 (Xz (wpAny_dictEpoch Jn Jo ?_)));rw[if_neg Mi];refine wpAny_pure ?_;simp only[show ¬((i:Int)<0)from by lia,if_false,Int.toNat_natCast,Array.getElem?_eq_getElem hi];refine wpAny_bind ?_;first|refine wpAny_bind (wpAny_typeNameOfWhole_valiter T (W0 ?_))|refine wpAny_bind (wpAny_typeNameOf_valiter T (W0 ?_))
 refine wpAny_bind (wpAny_isOneOf_valiter T ?_);show wpAny _ _ (setField (.ref it) 1 (rawInt ((i:Int)+1))>>=_) _ _ s;refine wpAny_bind (wpAny_setField ho hd Mi ?_);have ht:(s.heap.update it (Obj.mapFields (·.setIfInBounds 1 (rawInt ((i:Int)+1))))).IsValIter it d (i+1) es.size ep:=
  ⟨_,Heap.get?_update_self _ ho (Obj.isFreed_of_fields (Obj.data_mapFields hd _)),(Obj.cls_mapFields ..).trans hc,by rw[Obj.data_mapFields hd];simp[rawInt]⟩
 refine wpAny_bind (wpAny_holding (Xz (wpAny_isOneOf_valiter (s:={s with heap:=s.heap.update it (Obj.mapFields (·.setIfInBounds 1 (rawInt ((i:Int)+1))))}) ht.typeIs ?_)));refine wpAny_bind (wpAny_isOneOf_valiter (s:={s with heap:=s.heap.update it (Obj.mapFields (·.setIfInBounds 1 (rawInt ((i:Int)+1))))}) ht.typeIs ?_);show wpAny _ _ (pure es[i].val) _ _ _;exact W0 (W0 ⟨_,rfl,W0 (hQ _ ht (Heap.SameBut.update ..))⟩)
theorem HA(hh:A.handled=none)(hit:s.heap.IsValIter it d i es.size ep)(Jn:s.heap.get? d=some od)(Jo:od.data= .dict es ep)(hi:es.size≤i)
  (hQ:∀h',Heap.ExtBut it s.heap h'→Q none {s with heap:=h'}):wpAny (model prog w) A (pyNext (.ref it)) Q E s:=by
 obtain⟨o,ho,hc,hd⟩:=id hit;have T:=hit.typeIs;have CH:Builtin.Dict_items.ownsTuple "dict_valueiterator"=false:=Nn;unfold pyNext;refine wpAny_bind υ;refine wpAny_bind (W0 (Xz (Xz ?_)));first|refine wpAny_bind (wpAny_typeNameOfWhole_valiter T (W0 ?_))|refine wpAny_bind (wpAny_typeNameOf_valiter T (W0 ?_))
 refine wpAny_bind (wpAny_fieldsOf ho hd ?_);simp only[CH,Bool.false_eq_true,if_false];show wpAny _ _ (if (Value.ref d==Value.none)=true then _ else _) _ _ s;rw[Dt (show ¬((Value.ref d==Value.none)=true)from Bool.false_ne_true)];refine wpAny_bind (W0 (Xz (wpAny_dictEntries Jn Jo ?_)));rw[if_neg Mi];refine wpAny_bind (W0 (Xz (wpAny_dictEpoch Jn Jo ?_)));rw[if_neg Mi];refine wpAny_pure ?_;simp only[show ¬((i:Int)<0)from by lia,if_false,Int.toNat_natCast,Array.getElem?_eq_none hi];refine wpAny_bind ?_;first|refine wpAny_bind (wpAny_typeNameOfWhole_valiter T (W0 ?_))|refine wpAny_bind (wpAny_typeNameOf_valiter T (W0 ?_))
 show wpAny _ _ (setField (.ref it) 0 .none>>=_) _ _ s;refine wpAny_bind (wpAny_setField ho hd Mi ?_);show wpAny _ _ (newExc (.type "StopIteration") []>>=_) _ _ _;refine wpAny_bind ?_;simp only[newExc,newTuple];refine wpAny_bind (wpAny_newObj_type ?_ (by size_fits));refine wpAny_bind (m:=firstArgMember _ _) (wpAny_of_eq (a:=Value.none) (by first|rfl|(simp only[firstArgMember];rfl)) ?_);refine wpAny_newObj_type ?_ (by size_fits);simp only[raiseNew];refine wpAny_bind (wpAny_handled ?_);rw[show A.in1.handled=none from hh];refine wpAny_bind (W0 (wpAny_throw ?_));refine wpAny_bind (wpAny_isInstance (T:="StopIteration") (b:=true) ⟨_,Heap.get?_push_size _ rfl,rfl⟩ isSubtype_stop ?_);exact W0 (hQ _ (((Heap.SameBut.update ..).extBut.push _).push _))
end
theorem vP{α β:Type}{F:α→β→Prop}:∀{l:List α}{m:List β}{i:Nat}{a:α},Paired F l m→l[i]?=some a→∃b,m[i]?=some b∧F a b
 | _,_,_,_, .nil,e=>by simp at e
 | _,_,0,_, .cons r _,e=>by simp at e;subst e;exact⟨_,rfl,r⟩
 | _,_,i+1,_, .cons _ t,e=>by
  obtain⟨b,h,f⟩:=vP (i:=i) t (by simpa using e);exact⟨b,by simpa using h,f⟩
def Sj(d:Addr)(o:Obj)(kvs:List (List Key×V)):It:=
 ⟨fun i H=>H d=some (.sj o (.dT kvs))∧i<kvs.length,fun i H x H'=>H'=H∧∃p,kvs[i]?=some p∧x=p.2,fun i H=>H d=some (.sj o (.dT kvs))∧kvs.length≤i⟩
theorem Bw{P:Program}{w:World}{H:Hp}{h:Heap}{d:Addr}{o:Obj}{kvs:List (List Key×V)}{es:Array DictEntry}{ep:Nat}(ok:lz P w H h)(e:H d=some (.sj o (.dT kvs)))(hd:o.data= .dict es ep):
  h.get? d=some o∧es.size=kvs.length∧∀i (hi:i<es.size) p,kvs[i]?=some p→RelV p.2 es[i].val:=by
 obtain⟨q1,_,_,xs,r,o',qb,PN,z1,z2,z3,z4,_⟩:=ok d _ e;rw[q1]at z1;cases z1;rw[hd]at z3;cases z3;have hs:=size_of_entries z4;have hl:=Paired.length r;refine⟨q1,by rw[hs,hl],fun i hi p hp=>?_⟩;obtain⟨x,hx,rx⟩:=vP r hp;have e1:=entry_at z4 i;rw[hx,Array.getElem?_eq_getElem hi]at e1;have:es[i]=entryOfKey (tupleKind (cX P w)) x:=WK e1;rw[this];exact rx.2.2
theorem turn_val{P:Program}{w:World}{K:Frag}{tg:Expr}{it d:Addr}{o:Obj}{kvs:List (List Key×V)}{es:Array DictEntry}{ep:Nat}(hd:o.data= .dict es ep):Turn P w K tg (Sj d o kvs) [it] it (fun i h=>h.IsValIter it d i es.size ep) where
 mem:=IM
 obj:=fun i h st b hb=>by
  have e:b=it:=by simpa using hb
  subst e;obtain⟨o,e,c,d⟩:=st;exact⟨o,e,fun v z=>by rw[d]at z;cases z⟩
 keep:=fun i h h' st k=>let ⟨o,ho,r⟩:=st;⟨o,k it (IM) o ho,r⟩
 item:=by
  intro X hP hw hK hc i pins s σ H E I hf st hg;subst hP hw hK;obtain⟨hg,hi⟩:=hg;obtain⟨f0,f1,f2,f3,f4,f5⟩:=hf it (IM);obtain⟨g1,g2,g3⟩:=Bw I.bU hg hd;have sq:i<es.size:=by lia
  refine ET st g1 hd sq fun h' aT sb=>?_
  have I1:Inv X pins σ H {s with heap:=h'}:=I.turned (t':=s.toks) (fun b o hb e=>(sb.2 b hb).trans e) f0 f1 f3 f4 f5;obtain⟨oi,q1,q2,q3⟩:=id aT;exact⟨_,rfl,yn (s:={s with heap:=h'}) q1 q2 q3 ZO ⟨_,H,I1,g3 i sq kvs[i] (by simp[hi]),⟨rfl,kvs[i],by simp[hi],rfl⟩,aT,fun b hb=>(hf b hb).1⟩⟩
 done:=by
  intro X hP hw hK hc i pins s σ H E I hf st hg;subst hP hw hK;obtain⟨hg,hi⟩:=hg;obtain⟨f0,f1,f2,f3,f4,f5⟩:=hf it (IM);obtain⟨g1,g2,g3⟩:=Bw I.bU hg hd;exact HA (I.ok.hd hc) st g1 hd D9 fun h' eb=>⟨rfl,I.turned (t':=s.toks) (fun b o hb e=>eb b o hb e) f0 f1 f3 f4 f5⟩
 self:=fun _ _ _ _ _ st h=>wpAny_pyIter_valiter st h
section
variable{prog:Program}{w:World}{A:Around}{E:Value→Shared→Prop}{s:Shared}
theorem CI(d:Addr)(hd:(d==sysModules)=false):MeetsIn prog w (Builtin.«dict.values» ⟨[.ref d],[]⟩) (fun _ R s=>s.TypeIs (.ref d) "dict"∧
   R (.ok (.ret (.ref s.heap.objs.size))) {s with heap:=s.heap.push {cls:= .type "dict_values",data:= .fields #[.ref d]}}):=
 .of_wp fun A R s ⟨ht,h⟩=>by
  refine wpAny_bind ?_;unfold Builtin.Dict.noArgs;refine wpAny_bind (wpAny_notOrdered_dict ht ?_);show wpAny _ _ (pure d) _ _ s;refine wpAny_pure ?_;show wpAny _ _ (Builtin.Dict.showsAll d>>=_) _ _ s;unfold Builtin.Dict.showsAll;rw[Dt (by rw[hd];exact Bool.false_ne_true)];exact Xz (W0 (Xz (wpAny_newObj_type (W0 ⟨_,rfl,h⟩))))
theorem CJ{v d:Addr}{od:Obj}{es:Array DictEntry}{ep:Nat}{Q:Value→Shared→Prop}(hv:s.heap.IsValuesView v d)(Jn:s.heap.get? d=some od)(Jo:od.data= .dict es ep)
  (hQ:Q (.ref s.heap.objs.size) {s with heap:=s.heap.push {cls:= .type "dict_valueiterator",data:= .fields #[.ref d, .int 0 0, .int es.size 0, .int ep 0]}}):wpAny (model prog w) A (pyIter (.ref v)) Q E s:=by
 obtain⟨ov,Xc,aaZ,Xd⟩:=id hv;refine wpAny_pyIter_slot hv.typeIs F.slot_dict_values_iter (wpAny_call_entry F.slot_dict_values_iter hv.typeIs F.entry_dict_values_iter ?_ (F.args_dict_values_iter_1 _));unfold Builtin.«dict_values.__iter__»;refine wpAny_bind (W0 (Xz ?_));unfold Builtin.Dict_items.dictOf;refine wpAny_bind (wpAny_field Xc Xd (x:= .ref d) rfl (W0 (Xz ?_)));unfold Builtin.Dict_items.newIterator;refine wpAny_bind (wpAny_dictEntries Jn Jo (Xz (wpAny_dictEpoch Jn Jo ?_)));have CH:Builtin.Dict_items.ownsTuple "dict_valueiterator"=false:=Nn;simp only[CH,Bool.false_eq_true,if_false];refine wpAny_newObj_type (W0 ⟨_,rfl,"dict_valueiterator",_,⟨_,Heap.get?_push_size _ rfl,rfl⟩,F.slot_dict_valueiterator_next.lookup,?_⟩);simpa[rawInt]using hQ
end
def Oo(eU:Hp)(tl:TE):TI:=fun σ H R=>tl σ H fun x H1=>∃d kvs,x= .ref d∧H1 d=some (.dT kvs)∧∀o,NF eU d→R (Sj d o kvs) (upd H1 d (.sj o (.dT kvs)))
theorem aaM{X:Cx}(eU:Hp){tg o:Expr}{tl:TE}{apos eD:Pos}(hl:PE X o tl)(oE:attributeBase o "values" X.env (eval o X.env)=eval o X.env:=by rfl)(oF:(apos.endLine==eD.line)=true:=by rfl)(hH:X.eU=eU:=by rfl):
  PI X tg (.Call (.Attribute o "values" apos) [] [] eD) (Oo eU tl):=by
 subst hH;intro pins s σ H R I h;refine wpAny_Call_method0_late oE oF (cD (hl pins s σ H _ I h) fun v s1 ⟨x,H1,I1,r1,q1⟩=>?_);obtain⟨d,kvs,e,hd,q⟩:=q1;subst e;cases r1;obtain⟨z1,z2,xs,r,o,es,ep,g1,g2,g3,g4,g5⟩:=I1.bU d _ hd;have nf:NF X.eU d:=fun o v e=>by
  have:=I1.base.oj d o v e;rw[hd]at this;cases this
 refine⟨"dict",_,F.plainAttrs_dict,F.slot_dict_values,F.type_dict_values,⟨o,g1,g2.1⟩,fun b hb=>?_,Calls.callWith_builtin rfl (PySem.evalArgs_none ?_)⟩
 ·cases hb;exact⟨o,g1,g2.2.1⟩
 refine call_meetsIn F.slot_dict_values ⟨o,g1,g2.1⟩ F.entry_dict_values (F.args_dict_values_1 _) (CI d z2) ⟨⟨o,g1,g2.1⟩,?_⟩;have Xe:=Heap.get?_push_of_some {cls:= .type "dict_values",data:= .fields #[.ref d]} g1;refine CJ (s:={s1 with heap:=s1.heap.push {cls:= .type "dict_values",data:= .fields #[.ref d]}}) ⟨_,Heap.get?_push_size _ rfl,rfl,rfl⟩ Xe g3 ?_;have Iz:Inv X pins σ (upd H1 d (.sj o (.dT kvs))) s1:=I1.swap hd (fun _ z=>nomatch z) (fun _ z=>nomatch z) (fun _ z=>nomatch z) nf ⟨g1,z1,z2,xs,KT.keeps r (fun c ys ec=>by rw[aj (i5 ec hd (fun z=>nomatch z))];exact ec),o,es,ep,g1,g2,g3,g4,g5⟩;have I2:=Iz.kept (t':=s1.toks) fun b o e=>Heap.get?_push_of_some {cls:= .type "dict_values",data:= .fields #[.ref d]} e
 refine⟨_,[_],_,_,_,rfl,I2.kept (t':=s1.toks) fun b o e=>YG e,turn_val (o:=o) (kvs:=kvs) g3,⟨_,Heap.get?_push_size _ rfl,rfl,rfl⟩,fun b hb=>?_,q o nf⟩;have e:b=(s1.heap.push {cls:= .type "dict_values",data:= .fields #[.ref d]}).objs.size:=by simpa using hb
 subst e;exact I2.uF YH (I2.bU.fresh YH)
structure yK(n:Nat)(lt:Nat→Nat→Bool):Prop where
 tr:∀i j k,i<n→j<n→k<n→lt i j=true→lt j k=true→lt i k=true
 as:∀i j,i<n→j<n→lt i j=true→lt j i=false
 Sk:∀i j,i<n→j<n→i≠j→lt i j=true∨lt j i=true
def yb(n:Nat)(p:Array Nat):Prop:=p.toList.Perm (X_ n)
abbrev gd(p:Array Nat)(k:Nat):Nat:=p.getD k 0
theorem EU(p:Array Nat)(k:Nat):gd p k=(p[k]?).getD 0:=by unfold gd;rw[Array.getD_eq_getD_getElem?]
theorem yb.size{n:Nat}{p:Array Nat}(h:yb n p):p.size=n:=by have:=h.length_eq;simpa using this
def Sd(lt:Nat→Nat→Bool)(p:Array Nat)(m:Nat):Prop:=∀i j,i<j→j<m→lt (gd p i) (gd p j)=true
section
variable{n:Nat}{lt:Nat→Nat→Bool}(L:yK n lt)
include L
omit L in
omit L in
omit L in
end
def yL:Bool→Keyed→Array Keyed→Nat→Nat→Nat→StateT SortSt Sem (Option Nat):=sortPriv%PySem.Builtin.gallop
def Ld:Array Keyed→Array Keyed→StateT SortSt Sem (Array Keyed):=sortPriv%PySem.Builtin.mergeLo
def Le:Array Keyed→Array Keyed→StateT SortSt Sem (Array Keyed):=sortPriv%PySem.Builtin.mergeHi
def Ah(l:Bool)(key:Keyed)(xs:Array Keyed)(b i:Nat):StateT SortSt Sem (Option Bool):=do
 let x←elem' xs (b+i)
 if l then lt' x key else return (←lt' key x).map (!·)
theorem HC(l:Bool)(key:Keyed)(xs:Array Keyed)(b n h:Nat):yL l key xs b n h=(do
 let mut u:=0
 let mut v:=1
 let mut lo:=0
 let mut hi:=0
 let some r←Ah l key xs b h|return none
 if r then
  let mx:=n-h
  for _ in [0:n] do
   if v≥mx then break
   let some z←Ah l key xs b (h+v)|return none
   if !z then break
   u:=v
   v:=2*v+1
  lo:=h+u+1
  hi:=h+min v mx
 else
  let mx:=h+1
  for _ in [0:n] do
   if v≥mx then break
   let some z←Ah l key xs b (h-v)|return none
   if z then break
   u:=v
   v:=2*v+1
  lo:=h+1-min v mx
  hi:=h-u
 for _ in [0:n] do
  if lo≥hi then break
  let m:=lo+(hi-lo)/2
  let some z←Ah l key xs b m|return none
  if z then lo:=m+1 else hi:=m
 return some hi):=rfl
section
variable{prog:Program}{w:World}{A:Around}{E:Value→Shared→Prop}{s:Shared}
structure EV(prog:Program)(w:World)(A:Around)(s:Shared)(X:List Keyed)(κ:SortKind)(lt:Keyed→Keyed→Bool):Prop where
 run:∀x∈X,∀y∈X,∀C:Bool→Shared→Prop,C (lt x y) s→wpAny (model prog w) A (keyLt' κ x.1 y.1) C (fun _ _=>False) s
 tr:∀x∈X,∀y∈X,∀z∈X,lt x y=true→lt y z=true→lt x z=true
 as:∀x∈X,∀y∈X,lt x y=true→lt y x=false
 Sk:∀x∈X,∀y∈X,x≠y→lt x y=true∨lt y x=true
 nd:X.Nodup
variable{X:List Keyed}{κ:SortKind}{lt:Keyed→Keyed→Bool}(C:EV prog w A s X κ lt)
include C
theorem EV.no{x y:Keyed}(h1:x∈X)(h2:y∈X)(hn:x≠y)(h:lt x y=false):lt y x=true:=(C.Sk x h1 y h2 hn).resolve_left (by rw[h];simp)
theorem EV.ask{st:SortSt}{x y:Keyed}{Q:Option Bool→SortSt→Prop}(hk:kindOf st=κ)(h1:x∈X)(h2:y∈X)(h:Q (some (lt x y)) st):wpS (model prog w) A E s (lt' x y) Q st:=by
 rw[lt'_eq];refine wpS_bind (wpS_get ?_);rw[hk];refine wpS_bind (wpS_lift (wpAny_attempt (wpAny_mono (C.run x h1 y h2 (fun b s'=>b=lt x y∧s'=s) ⟨rfl,rfl⟩) ?_ fun _ _ e=>e.elim)));rintro b s' ⟨rfl,rfl⟩;exact⟨rfl,Wv h⟩
omit C in
theorem eY{st:SortSt}{xs:Array Keyed}{i:Nat}{x:Keyed}{Q:Keyed→SortSt→Prop}(e:xs[i]?=some x)(h:Q x st):wpS (model prog w) A E s (elem' xs i) Q st:=by
 rw[elem'_eq,e];exact Wv h
def ll(lt:Keyed→Keyed→Bool)(l:Bool)(key x:Keyed):Bool:=if l then lt x key else !lt key x
theorem sJ{st:SortSt}{l:Bool}{key x:Keyed}{xs:Array Keyed}{b i:Nat}{Q:Option Bool→SortSt→Prop}(hk:kindOf st=κ)(h1:key∈X)(h2:x∈X)(e:xs[b+i]?=some x)(h:Q (some (ll lt l key x)) st):wpS (model prog w) A E s (Ah l key xs b i) Q st:=by
 unfold Ah;refine wpS_bind (eY e ?_);cases l with
 |true=>exact C.ask hk h2 h1 h
 |false=>exact wpS_bind (C.ask hk h1 h2 (Wv h))
theorem qA{st:SortSt}{l:Bool}{key:Keyed}{xs:Array Keyed}{b n h:Nat}{Q:Option Nat→SortSt→Prop}(g:Nat→Keyed)(hk:kindOf st=κ)(h1:key∈X)(hg:∀i,i<n→xs[b+i]?=some (g i)∧g i∈X)(RR:∀i j,i<j→j<n→lt (g i) (g j)=true)(hh:h<n)
  (q:∀k,k≤n→(∀i,i<k→ll lt l key (g i)=true)→(∀i,k≤i→i<n→ll lt l key (g i)=false)→Q (some k) st):wpS (model prog w) A E s (yL l key xs b n h) Q st:=by
 have dn:∀i j,i≤j→j<n→ll lt l key (g j)=true→ll lt l key (g i)=true:=fun i j mV hj hb=>by
  by_cases e:i=j
  ·rw[e];exact hb
  have hl:=RR i j D9 hj;unfold ll at hb⊢;cases l with
  |true=>exact C.tr _ (hg i D9).2 _ (hg j hj).2 _ h1 hl hb
  |false=>
   simp only[Bool.false_eq_true,if_false,Bool.not_eq_true']at hb⊢;cases e2:lt key (g i)with
   |false=>rfl
   |true=>rw[C.tr _ h1 _ (hg i D9).2 _ (hg j hj).2 e2 hl]at hb;cases hb
 have up:∀i j,i≤j→j<n→ll lt l key (g i)=false→ll lt l key (g j)=false:=fun i j mV hj hb=>by
  cases e:ll lt l key (g j)with
  |false=>rfl
  |true=>rw[dn i j mV hj e]at hb;cases hb
 have bin:∀lo hi,lo≤hi→hi≤n→(∀i,i<lo→ll lt l key (g i)=true)→(∀i,hi≤i→i<n→ll lt l key (g i)=false)→wpS (model prog w) A E s (do
   let r←forIn [0:n] ((none,lo,hi):Option (Option Nat)×Nat×Nat) fun _ __s=>
    if __s.2.1≥__s.2.2 then pure (ForInStep.done (none,__s.2.1,__s.2.2))
    else do
     let __x←Ah l key xs b (__s.2.1+(__s.2.2-__s.2.1)/2)
     match __x with
     |some z=>if z=true then pure (ForInStep.yield (none,__s.2.1+(__s.2.2-__s.2.1)/2+1,__s.2.2))else pure (ForInStep.yield (none,__s.2.1,__s.2.1+(__s.2.2-__s.2.1)/2))
     | _=>pure (ForInStep.done (some none,__s.2.1,__s.2.2))
   match r.1 with
   |some r=>pure r
   |none=>pure (some r.2.2)) Q st:=fun lo hi h2 h3 h4 h5=>by
  refine wpS_bind (wpS_mono (wpS_forRange (I:=fun x c aT=>aT=st∧∃lo hi,c=(none,lo,hi)∧lo≤hi∧hi≤n∧(∀i,i<lo→ll lt l key (g i)=true)∧(∀i,hi≤i→i<n→ll lt l key (g i)=false)∧hi-lo+x≤n) (Q:=fun c aT=>aT=st∧∃k,c.1=none∧c.2.2=k∧k≤n∧(∀i,i<k→ll lt l key (g i)=true)∧(∀i,k≤i→i<n→ll lt l key (g i)=false)) ?_ ?_ ⟨rfl,lo,hi,rfl,h2,h3,h4,h5,by lia⟩) ?_)
  ·rintro x c aT _ hx ⟨rfl,lo,hi,rfl,a1,a2,a3,a4,a5⟩;dsimp only;by_cases UT:lo≥hi
   ·rw[HB UT];have:lo=hi:=by lia
    subst this;exact Wv ⟨rfl,lo,rfl,rfl,a2,a3,a4⟩
   ·rw[Dt UT];have hm:lo+(hi-lo)/2<n:=by lia
    obtain⟨g1,g2⟩:=hg _ hm;refine wpS_bind (sJ C hk h1 g2 g1 ?_);dsimp only;cases e:ll lt l key (g (lo+(hi-lo)/2))with
    |true=>
     simp only[if_true];exact Wv ⟨rfl,_,hi,rfl,by lia,a2,fun i sq=>dn i _ (by lia) hm e,a4,by lia⟩
    |false=>
     simp only[Bool.false_eq_true,if_false];exact Wv ⟨rfl,lo,_,rfl,by lia,by lia,a3,fun i sq oe=>up _ i sq oe e,by lia⟩
  ·rintro c aT ⟨rfl,lo,hi,rfl,a1,a2,a3,a4,a5⟩;have:lo=hi:=by lia
   subst this;exact⟨rfl,lo,rfl,rfl,a2,a3,a4⟩
  ·rintro⟨c1,c2,c3⟩ aT ⟨rfl,k,e1,e2,a2,a3,a4⟩;dsimp only at e1 e2⊢;subst e1 e2;exact Wv (q _ a2 a3 a4)
 rw[HC];obtain⟨Xf,Xg⟩:=hg h hh;refine wpS_bind (sJ C hk h1 Xg Xf ?_);dsimp only;cases e:ll lt l key (g h)with
 |true=>
  simp only[if_true];refine wpS_bind (wpS_mono (wpS_forRange (I:=fun x c aT=>aT=st∧∃u v,c=(none,u,v)∧u<v∧h+u<n∧ll lt l key (g (h+u))=true∧x<v) (Q:=fun c aT=>aT=st∧∃u v,c=(none,u,v)∧u<v∧h+u<n∧ll lt l key (g (h+u))=true∧(n-h≤v∨(h+v<n∧ll lt l key (g (h+v))=false))) ?_ ?_ ⟨rfl,0,1,rfl,by lia,by lia,e,by lia⟩) ?_)
  ·rintro x c aT _ hx ⟨rfl,u,v,rfl,a1,a2,a3,a4⟩;dsimp only;by_cases hv:v≥n-h
   ·rw[HB hv];exact Wv ⟨rfl,u,v,rfl,a1,a2,a3, .inl hv⟩
   ·rw[Dt hv];obtain⟨g1,g2⟩:=hg (h+v) (by lia);refine wpS_bind (sJ C hk h1 g2 g1 ?_);dsimp only;cases e2:ll lt l key (g (h+v))with
    |false=>
     simp only[Bool.not_false,if_true];exact Wv ⟨rfl,u,v,rfl,a1,a2,a3, .inr ⟨by lia,e2⟩⟩
    |true=>
     simp only[Bool.not_true,Bool.false_eq_true,if_false];exact Wv ⟨rfl,v,2*v+1,rfl,by lia,by lia,e2,by lia⟩
  ·rintro c aT ⟨rfl,u,v,rfl,a1,a2,a3,a4⟩;exact⟨rfl,u,v,rfl,a1,a2,a3, .inl D9⟩
  ·rintro c aT ⟨rfl,u,v,rfl,a1,a2,a3,a4⟩;dsimp only;refine Eq.mp (by kernel_rfl) (bin (h+u+1) (h+min v (n-h)) (by lia) (by lia) (fun i hi=>dn i (h+u) (by lia) a2 a3) fun i hi oe=>?_);rcases a4 with a4|⟨a4,a5⟩
   ·lia
   ·exact up (h+v) i D9 oe a5
 |false=>
  simp only[Bool.false_eq_true,if_false];refine wpS_bind (wpS_mono (wpS_forRange (I:=fun x c aT=>aT=st∧∃u v,c=(none,u,v)∧u<v∧u≤h∧ll lt l key (g (h-u))=false∧x<v) (Q:=fun c aT=>aT=st∧∃u v,c=(none,u,v)∧u<v∧u≤h∧ll lt l key (g (h-u))=false∧(h+1≤v∨(v≤h∧ll lt l key (g (h-v))=true))) ?_ ?_ ⟨rfl,0,1,rfl,by lia,by lia,e,by lia⟩) ?_)
  ·rintro x c aT _ hx ⟨rfl,u,v,rfl,a1,a2,a3,a4⟩;dsimp only;by_cases hv:v≥h+1
   ·rw[HB hv];exact Wv ⟨rfl,u,v,rfl,a1,a2,a3, .inl hv⟩
   ·rw[Dt hv];obtain⟨g1,g2⟩:=hg (h-v) (by lia);refine wpS_bind (sJ C hk h1 g2 g1 ?_);dsimp only;cases e2:ll lt l key (g (h-v))with
    |true=>
     simp only[if_true];exact Wv ⟨rfl,u,v,rfl,a1,a2,a3, .inr ⟨by lia,e2⟩⟩
    |false=>
     simp only[Bool.false_eq_true,if_false];exact Wv ⟨rfl,v,2*v+1,rfl,by lia,by lia,e2,by lia⟩
  ·rintro c aT ⟨rfl,u,v,rfl,a1,a2,a3,a4⟩;exact⟨rfl,u,v,rfl,a1,a2,a3, .inl D9⟩
  ·rintro c aT ⟨rfl,u,v,rfl,a1,a2,a3,a4⟩;dsimp only;refine Eq.mp (by kernel_rfl) (bin (h+1-min v (h+1)) (h-u) (by lia) (by lia) (fun i hi=>?_) fun i hi oe=>up (h-u) i D9 oe a3);rcases a4 with a4|⟨a4,a5⟩
   ·lia
   ·exact dn i (h-v) (by lia) (by lia) a5
end
def setG(g:Nat):StateT SortSt Sem Unit:=modify fun st=>SortSt.mk' (kindOf st) (Hi st) (VN st) g (failedOf st)
def Gq(a b out:Array Keyed)(i j:Nat):Array Keyed:=out++a.extract i a.size++b.extract j b.size
def Mx(a b out:Array Keyed)(i j:Nat):Array Keyed:=out++b.extract j b.size++a.extract i a.size
abbrev S1:=Option (Array Keyed)×Array Keyed×Nat×Nat×Nat×Nat
abbrev S2:=Option (Array Keyed)×Array Keyed×Nat×Nat×Nat×Nat×Nat
abbrev S3:=Option (Array Keyed)×Array Keyed×Nat×Nat×Nat
def lo1(a b:Array Keyed)(mg:Nat)(c:S1):StateT SortSt Sem (ForInStep S1):=do
 let y←elem' b c.2.2.2.1
 let x←elem' a c.2.2.1
 let z←lt' y x
 match z with
 |some bw=>
  if bw=true then do
   let y←elem' b c.2.2.2.1
   if (c.2.2.2.1+1==b.size)=true then pure (.done (some (Gq a b (c.2.1.push y) c.2.2.1 (c.2.2.2.1+1)),c.2.1.push y,c.2.2.1,c.2.2.2.1+1,0,c.2.2.2.2.2+1))
   else if c.2.2.2.2.2+1≥mg then pure (.done (none,c.2.1.push y,c.2.2.1,c.2.2.2.1+1,0,c.2.2.2.2.2+1))
   else pure (.yield (none,c.2.1.push y,c.2.2.1,c.2.2.2.1+1,0,c.2.2.2.2.2+1))
  else do
   let x←elem' a c.2.2.1
   if (c.2.2.1+1+1==a.size)=true then pure (.done (some (Mx a b (c.2.1.push x) (c.2.2.1+1) c.2.2.2.1),c.2.1.push x,c.2.2.1+1,c.2.2.2.1,c.2.2.2.2.1+1,0))
   else if c.2.2.2.2.1+1≥mg then pure (.done (none,c.2.1.push x,c.2.2.1+1,c.2.2.2.1,c.2.2.2.2.1+1,0))
   else pure (.yield (none,c.2.1.push x,c.2.2.1+1,c.2.2.2.1,c.2.2.2.2.1+1,0))
 | _=>pure (.done (some (Gq a b c.2.1 c.2.2.1 c.2.2.2.1),c.2.1,c.2.2.1,c.2.2.2.1,c.2.2.2.2.1,c.2.2.2.2.2))
def Qe(a b o:Array Keyed)(i j mg k l:Nat):StateT SortSt Sem (ForInStep S2):=do
 let x←elem' a i
 if (i+1+1==a.size)=true then pure (.done (some (Mx a b (o.push x) (i+1) j),o.push x,i+1,j,mg,k,l))
 else if (decide (k<7)&&decide (l<7))=true then pure (.done (none,o.push x,i+1,j,mg,k,l))
 else pure (.yield (none,o.push x,i+1,j,mg,k,l))
def Sl(a b o:Array Keyed)(i j mg k bc:Nat):StateT SortSt Sem (ForInStep S2):=do
 let x←elem' a i
 let z←yL true x b j (b.size-j) 0
 match z with
 |some l=>if l>0 then(if (j+l==b.size)=true then pure (.done (some (Gq a b (o++b.extract j (j+l)) i (j+l)),o++b.extract j (j+l),i,j+l,mg,k,l))else Qe a b (o++b.extract j (j+l)) i (j+l) mg k l)else Qe a b o i j mg k l
 | _=>pure (.done (some (Gq a b o i j),o,i,j,mg,k,bc))
def Qf(a b o:Array Keyed)(i j mg k bc:Nat):StateT SortSt Sem (ForInStep S2):=do
 let y←elem' b j
 if (j+1==b.size)=true then pure (.done (some (Gq a b (o.push y) i (j+1)),o.push y,i,j+1,mg,k,bc))else Sl a b (o.push y) i (j+1) mg k bc
def Qg(a b o:Array Keyed)(i j mg ac bc:Nat):StateT SortSt Sem (ForInStep S2):=do
 setG mg
 let y←elem' b j
 let z←yL false y a i (a.size-i) 0
 match z with
 |some k=>if k>0 then(if (i+k+1==a.size)=true then pure (.done (some (Mx a b (o++a.extract i (i+k)) (i+k) j),o++a.extract i (i+k),i+k,j,mg,k,bc))else if (i+k==a.size)=true then pure (.done (some (Gq a b (o++a.extract i (i+k)) (i+k) j),o++a.extract i (i+k),i+k,j,mg,k,bc))else Qf a b (o++a.extract i (i+k)) (i+k) j mg k bc)else Qf a b o i j mg k bc
 | _=>pure (.done (some (Gq a b o i j),o,i,j,mg,ac,bc))
def Sn(a b:Array Keyed)(c:S2):StateT SortSt Sem (ForInStep S2):=if c.2.2.2.2.1>1 then Qg a b c.2.1 c.2.2.1 c.2.2.2.1 (c.2.2.2.2.1-1) c.2.2.2.2.2.1 c.2.2.2.2.2.2 else Qg a b c.2.1 c.2.2.1 c.2.2.2.1 c.2.2.2.2.1 c.2.2.2.2.2.1 c.2.2.2.2.2.2
def So(a b:Array Keyed)(c:S3):StateT SortSt Sem (ForInStep S3):=do
 let t←forIn [0:a.size+b.size] ((none,c.2.1,c.2.2.1,c.2.2.2.1,0,0):S1) (fun _=>lo1 a b c.2.2.2.2)
 match t.1 with
 |some r=>pure (.done (some r,t.2.1,t.2.2.1,t.2.2.2.1,c.2.2.2.2))
 |none=>do
  liftM (rule "list.sort.gallop")
  let u←forIn [0:a.size+b.size] ((none,t.2.1,t.2.2.1,t.2.2.2.1,c.2.2.2.2+1,t.2.2.2.2.1,t.2.2.2.2.2):S2) (fun _=>Sn a b)
  match u.1 with
  |some r=>pure (.done (some r,u.2.1,u.2.2.1,u.2.2.2.1,u.2.2.2.2.1))
  |none=>do
   setG (u.2.2.2.2.1+1)
   pure (.yield (none,u.2.1,u.2.2.1,u.2.2.2.1,u.2.2.2.2.1+1))
theorem HE(a b:Array Keyed):Ld a b=(do
 liftM (rule "list.sort.merge-lo")
 let y←elem' b 0
 if (1==b.size)=true then pure (Gq a b #[y] 0 1)
 else if (0+1==a.size)=true then pure (Mx a b #[y] 0 1)
 else do
  let g←get
  let t←forIn [0:a.size+b.size] ((none,#[y],0,1,gallopOf g):S3) (fun _=>So a b)
  match t.1 with
  |some r=>pure r
  |none=>unsupported "internal:list.sort.merge-bound"):=by kernel_rfl
def Gr(a b o:Array Keyed)(i j:Nat):Array Keyed:=a.extract 0 i++b.extract 0 j++o.reverse
def My(a b o:Array Keyed)(i j:Nat):Array Keyed:=b.extract 0 j++a.extract 0 i++o.reverse
abbrev T1:=Option (Array Keyed)×Nat×Nat×Array Keyed×Nat×Nat
abbrev T2:=Option (Array Keyed)×Nat×Nat×Array Keyed×Nat×Nat×Nat
abbrev T3:=Option (Array Keyed)×Nat×Nat×Array Keyed×Nat
def HF(a b:Array Keyed)(mg:Nat)(c:T1):StateT SortSt Sem (ForInStep T1):=do
 let y←elem' b (c.2.2.1-1)
 let x←elem' a (c.2.1-1)
 let z←lt' y x
 match z with
 |some aw=>
  if aw=true then do
   let x←elem' a (c.2.1-1)
   if (c.2.1-1==0)=true then pure (.done (some (Gr a b (c.2.2.2.1.push x) (c.2.1-1) c.2.2.1),c.2.1-1,c.2.2.1,c.2.2.2.1.push x,c.2.2.2.2.1+1,0))
   else if c.2.2.2.2.1+1≥mg then pure (.done (none,c.2.1-1,c.2.2.1,c.2.2.2.1.push x,c.2.2.2.2.1+1,0))
   else pure (.yield (none,c.2.1-1,c.2.2.1,c.2.2.2.1.push x,c.2.2.2.2.1+1,0))
  else do
   let y←elem' b (c.2.2.1-1)
   if (c.2.2.1-1==1)=true then pure (.done (some (My a b (c.2.2.2.1.push y) c.2.1 (c.2.2.1-1)),c.2.1,c.2.2.1-1,c.2.2.2.1.push y,0,c.2.2.2.2.2+1))
   else if c.2.2.2.2.2+1≥mg then pure (.done (none,c.2.1,c.2.2.1-1,c.2.2.2.1.push y,0,c.2.2.2.2.2+1))
   else pure (.yield (none,c.2.1,c.2.2.1-1,c.2.2.2.1.push y,0,c.2.2.2.2.2+1))
 | _=>pure (.done (some (Gr a b c.2.2.2.1 c.2.1 c.2.2.1),c.2.1,c.2.2.1,c.2.2.2.1,c.2.2.2.2.1,c.2.2.2.2.2))
def Qh(a b o:Array Keyed)(i j mg k l:Nat):StateT SortSt Sem (ForInStep T2):=do
 let x←elem' a (i-1)
 if (i-1==0)=true then pure (.done (some (Gr a b (o.push x) (i-1) j),i-1,j,o.push x,mg,k,l))
 else if (decide (k<7)&&decide (l<7))=true then pure (.done (none,i-1,j,o.push x,mg,k,l))
 else pure (.yield (none,i-1,j,o.push x,mg,k,l))
def Sq(a b o:Array Keyed)(i j mg k bc:Nat):StateT SortSt Sem (ForInStep T2):=do
 let x←elem' a (i-1)
 let z←yL true x b 0 j (j-1)
 match z with
 |some t=>if j-t>0 then(if (t==1)=true then pure (.done (some (My a b (o++(b.extract t j).reverse) i t),i,t,o++(b.extract t j).reverse,mg,k,j-t))else if (t==0)=true then pure (.done (some (Gr a b (o++(b.extract t j).reverse) i t),i,t,o++(b.extract t j).reverse,mg,k,j-t))else Qh a b (o++(b.extract t j).reverse) i t mg k (j-t))else Qh a b o i j mg k (j-t)
 | _=>pure (.done (some (Gr a b o i j),i,j,o,mg,k,bc))
def Qi(a b o:Array Keyed)(i j mg k bc:Nat):StateT SortSt Sem (ForInStep T2):=do
 let y←elem' b (j-1)
 if (j-1==1)=true then pure (.done (some (My a b (o.push y) i (j-1)),i,j-1,o.push y,mg,k,bc))else Sq a b (o.push y) i (j-1) mg k bc
def zx(a b o:Array Keyed)(i j mg ac bc:Nat):StateT SortSt Sem (ForInStep T2):=do
 setG mg
 let y←elem' b (j-1)
 let z←yL false y a 0 i (i-1)
 match z with
 |some t=>if i-t>0 then(if (t==0)=true then pure (.done (some (Gr a b (o++(a.extract t i).reverse) t j),t,j,o++(a.extract t i).reverse,mg,i-t,bc))else Qi a b (o++(a.extract t i).reverse) t j mg (i-t) bc)else Qi a b o i j mg (i-t) bc
 | _=>pure (.done (some (Gr a b o i j),i,j,o,mg,ac,bc))
def Sr(a b:Array Keyed)(c:T2):StateT SortSt Sem (ForInStep T2):=if c.2.2.2.2.1>1 then zx a b c.2.2.2.1 c.2.1 c.2.2.1 (c.2.2.2.2.1-1) c.2.2.2.2.2.1 c.2.2.2.2.2.2 else zx a b c.2.2.2.1 c.2.1 c.2.2.1 c.2.2.2.2.1 c.2.2.2.2.2.1 c.2.2.2.2.2.2
def Ss(a b:Array Keyed)(c:T3):StateT SortSt Sem (ForInStep T3):=do
 let t←forIn [0:a.size+b.size] ((none,c.2.1,c.2.2.1,c.2.2.2.1,0,0):T1) (fun _=>HF a b c.2.2.2.2)
 match t.1 with
 |some r=>pure (.done (some r,t.2.1,t.2.2.1,t.2.2.2.1,c.2.2.2.2))
 |none=>do
  liftM (rule "list.sort.gallop")
  let u←forIn [0:a.size+b.size] ((none,t.2.1,t.2.2.1,t.2.2.2.1,c.2.2.2.2+1,t.2.2.2.2.1,t.2.2.2.2.2):T2) (fun _=>Sr a b)
  match u.1 with
  |some r=>pure (.done (some r,u.2.1,u.2.2.1,u.2.2.2.1,u.2.2.2.2.1))
  |none=>do
   setG (u.2.2.2.2.1+1)
   pure (.yield (none,u.2.1,u.2.2.1,u.2.2.2.1,u.2.2.2.2.1+1))
theorem HH(a b:Array Keyed):Le a b=(do
 liftM (rule "list.sort.merge-hi")
 let x←elem' a (a.size-1)
 if (a.size-1==0)=true then pure (Gr a b #[x] (a.size-1) b.size)
 else if (b.size==1)=true then pure (My a b #[x] (a.size-1) b.size)
 else do
  let g←get
  let t←forIn [0:a.size+b.size] ((none,a.size-1,b.size,#[x],gallopOf g):T3) (fun _=>Ss a b)
  match t.1 with
  |some r=>pure r
  |none=>unsupported "internal:list.sort.merge-bound"):=by kernel_rfl
theorem lJ{α:Type}{l:List α}{i:Nat}{x:α}:x∈l.drop i↔∃t:Nat,l[i+t]?=some x:=by
 rw[List.mem_iff_getElem?];simp only[List.getElem?_drop]
theorem tI{α:Type}{l:List α}{i k:Nat}{x:α}:x∈(l.drop i).take k↔∃t:Nat,t<k∧l[i+t]?=some x:=by
 rw[List.mem_iff_getElem?];constructor
 ·rintro⟨t,ht⟩;rw[List.getElem?_take]at ht;split at ht
  ·rw[List.getElem?_drop]at ht;exact⟨t,by assumption,ht⟩
  ·cases ht
 ·rintro⟨t,h1,h2⟩;exact⟨t,by rw[List.getElem?_take,HB h1,List.getElem?_drop];exact h2⟩
theorem oS{α:Type}{l:List α}{i:Nat}{x:α}(h:l[i]?=some x):l.drop i=x::l.drop (i+1):=by
 obtain⟨h1,h2⟩:=ZX h;rw[List.drop_eq_getElem_cons h1,h2]
theorem oT{α:Type}(l:List α)(i k:Nat):l.drop i=(l.drop i).take k++l.drop (i+k):=by
 rw[←List.drop_drop,List.take_append_drop]
abbrev Pw(lt:Keyed→Keyed→Bool)(l:List Keyed):Prop:=l.Pairwise fun x y=>lt x y=true
theorem Pw.at{lt:Keyed→Keyed→Bool}{l:List Keyed}(h:Pw lt l){i j:Nat}{x y:Keyed}(mV:i<j)(hx:l[i]?=some x)(hy:l[j]?=some y):lt x y=true:=by
 obtain⟨h1,e1⟩:=ZX hx;obtain⟨h2,e2⟩:=ZX hy;have:=List.pairwise_iff_getElem.mp h i j h1 h2 mV;rw[e1,e2]at this;exact this
section
variable{X:List Keyed}{lt:Keyed→Keyed→Bool}{P Q:List Keyed}
structure MC(X:List Keyed)(lt:Keyed→Keyed→Bool)(P Q:List Keyed):Prop where
 sa:Pw lt P
 sb:Pw lt Q
 ia:∀x∈P,x∈X
 ib:∀x∈Q,x∈X
 ne:∀x∈P,∀y∈Q,x≠y
 fst:∀x∈P,∀y,Q[0]?=some y→lt y x=true
 lst:∀y∈Q,∀x,P[P.length-1]?=some x→lt y x=true
structure ML(lt:Keyed→Keyed→Bool)(P Q O:List Keyed)(i j:Nat):Prop where
 hi:i≤P.length
 hj:j≤Q.length
 qB:Pw lt O
 low:∀x∈O,∀y,y∈P.drop i∨y∈Q.drop j→lt x y=true
 HI:(O++(P.drop i++Q.drop j)).Perm (P++Q)
def MG(lt:Keyed→Keyed→Bool)(P Q R:List Keyed):Prop:=R.Perm (P++Q)∧Pw lt R
theorem ML.a{O:List Keyed}{i j k:Nat}(M:MC X lt P Q)(m:ML lt P Q O i j)(hk:i+k≤P.length)(h:∀x∈(P.drop i).take k,∀y∈Q.drop j,lt x y=true):ML lt P Q (O++(P.drop i).take k) (i+k) j:=by
 have sp:=oT P i k;have sd:Pw lt (P.drop i):=M.sa.sublist (List.drop_sublist _ _);rw[sp]at sd;obtain⟨s1,s2,s3⟩:=Κ sd;refine⟨hk,m.hj,Γ ⟨m.qB,s1,fun x hx y hy=>m.low x hx y (.inl (ui hy))⟩,fun x hx y hy=>?_,?_⟩
 ·rcases List.mem_append.mp hx with hx|hx
  ·exact m.low x hx y (hy.imp (fun z=>by rw[sp];exact ZI z) id)
  ·rcases hy with hy|hy
   ·exact s3 x hx y hy
   ·exact h x hx y hy
 ·have:=m.HI;rw[sp]at this;rw[List.append_assoc,←List.append_assoc ((P.drop i).take k)];exact this
theorem ML.b{O:List Keyed}{i j k:Nat}(M:MC X lt P Q)(m:ML lt P Q O i j)(hk:j+k≤Q.length)(h:∀y∈(Q.drop j).take k,∀x∈P.drop i,lt y x=true):ML lt P Q (O++(Q.drop j).take k) i (j+k):=by
 have sp:=oT Q j k;have sd:Pw lt (Q.drop j):=M.sb.sublist (List.drop_sublist _ _);rw[sp]at sd;obtain⟨s1,s2,s3⟩:=Κ sd;refine⟨m.hi,hk,Γ ⟨m.qB,s1,fun x hx y hy=>m.low x hx y (.inr (ui hy))⟩,fun x hx y hy=>?_,?_⟩
 ·rcases List.mem_append.mp hx with hx|hx
  ·exact m.low x hx y (hy.imp id (fun z=>by rw[sp];exact ZI z))
  ·rcases hy with hy|hy
   ·exact h x hx y hy
   ·exact s3 x hx y hy
 ·have:=m.HI;rw[sp]at this;refine List.Perm.trans ?_ this;rw[List.append_assoc];refine List.Perm.append_left O ?_;rw[←List.append_assoc,←List.append_assoc];exact List.Perm.append_right _ List.perm_append_comm
theorem ML.dn{O:List Keyed}{i j:Nat}(M:MC X lt P Q)(m:ML lt P Q O i j)(h:i=P.length∨j=Q.length):MG lt P Q (O++P.drop i++Q.drop j):=by
 refine⟨by rw[List.append_assoc];exact m.HI,?_⟩;have sa:Pw lt (P.drop i):=M.sa.sublist (List.drop_sublist _ _);have sb:Pw lt (Q.drop j):=M.sb.sublist (List.drop_sublist _ _);rw[List.append_assoc];refine List.pairwise_append.mpr ⟨m.qB,Γ ⟨sa,sb,fun x hx y hy=>?_⟩,fun x hx y hy=>m.low x hx y (List.mem_append.mp hy)⟩;rcases h with h|h
 ·rw[h,List.drop_length]at hx;cases hx
 ·rw[h,List.drop_length]at hy;cases hy
theorem ML.ls{O:List Keyed}{i j:Nat}(M:MC X lt P Q)(m:ML lt P Q O i j)(h:i+1=P.length):MG lt P Q (O++Q.drop j++P.drop i):=by
 have sa:Pw lt (P.drop i):=M.sa.sublist (List.drop_sublist _ _);have sb:Pw lt (Q.drop j):=M.sb.sublist (List.drop_sublist _ _);rw[List.append_assoc];refine⟨(List.Perm.append_left O List.perm_append_comm).trans m.HI,Γ ⟨m.qB,Γ ⟨sb,sa,fun y hy x hx=>?_⟩,fun x hx y hy=>m.low x hx y (List.mem_append.mp hy).symm⟩⟩;obtain⟨t,ht⟩:=lJ.mp hx;have hl:=(ZX ht).1;exact M.lst y (List.mem_of_mem_drop hy) x (by rw[←ht];congr 1;lia)
end
def Eg(st aT:SortSt):Prop:=kindOf aT=kindOf st∧arrOf aT=arrOf st∧pendingOf aT=pendingOf st∧failedOf aT=failedOf st
theorem Eg.refl(st:SortSt):Eg st st:=⟨rfl,rfl,rfl,rfl⟩
theorem Eg.trans{a b c:SortSt}(h:Eg a b)(k:Eg b c):Eg a c:=⟨k.1.trans h.1,k.2.1.trans h.2.1,k.2.2.1.trans h.2.2.1,k.2.2.2.trans h.2.2.2⟩
section
variable{prog:Program}{w:World}{A:Around}{E:Value→Shared→Prop}{s:Shared}{X:List Keyed}{κ:SortKind}{lt:Keyed→Keyed→Bool}(C:EV prog w A s X κ lt){a b:Array Keyed}(M:MC X lt a.toList b.toList)
theorem sL{st:SortSt}{g:Nat}{Q:Unit→SortSt→Prop}(h:∀aT,Eg st aT→Q () aT):wpS (model prog w) A E s (setG g) Q st:=wpS_modify (h _ ⟨rfl,rfl,rfl,rfl⟩)
theorem yM(o:Array Keyed)(i j:Nat):(Gq a b o i j).toList=o.toList++a.toList.drop i++b.toList.drop j:=by
 unfold Gq;simp[Array.toList_extract,List.extract_eq_take_drop];rw[List.take_of_length_le Mi,List.take_of_length_le Mi]
theorem Bx(o:Array Keyed)(i j:Nat):(Mx a b o i j).toList=o.toList++b.toList.drop j++a.toList.drop i:=by
 unfold Mx;simp[Array.toList_extract,List.extract_eq_take_drop];rw[List.take_of_length_le Mi,List.take_of_length_le Mi]
theorem Jp(o:Array Keyed)(c:Array Keyed)(i k:Nat):(o++c.extract i (i+k)).toList=o.toList++(c.toList.drop i).take k:=by
 simp[Array.toList_extract,List.extract_eq_take_drop]
theorem Gs{l:List Keyed}{i:Nat}{x:Keyed}(h:l[i]?=some x):(l.drop i).take 1=[x]:=by rw[oS h];simp
def By(lt:Keyed→Keyed→Bool)(a b:Array Keyed)(o:Array Keyed)(i j m:Nat):Prop:=ML lt a.toList b.toList o.toList i j∧i+1<a.size∧j<b.size∧m≤i+j
def P2(lt:Keyed→Keyed→Bool)(a b:Array Keyed)(m:Nat)(st:SortSt)(r:ForInStep S2)(aT:SortSt):Prop:=Eg st aT∧match r with
 | .done c=>(∃x,c.1=some x∧MG lt a.toList b.toList x.toList)∨(c.1=none∧By lt a b c.2.1 c.2.2.1 c.2.2.2.1 m)
 | .yield c=>c.1=none∧By lt a b c.2.1 c.2.2.1 c.2.2.2.1 m
include C M
theorem EW{st:SortSt}{o:Array Keyed}{i j mg k l m:Nat}(ml:ML lt a.toList b.toList o.toList i j)(hi:i+1<a.size)(hj:j<b.size)(hm:m≤i+j+1)(h:∀x,a.toList[i]?=some x→∀y∈b.toList.drop j,lt x y=true):wpS (model prog w) A E s (Qe a b o i j mg k l) (P2 lt a b m st) st:=by
 unfold Qe;have ex:a[i]?=some a[i]:=IM;have gF:a.toList[i]?=some a[i]:=by rw[Array.getElem?_toList];exact ex
 refine wpS_bind (eY ex ?_);have m2:ML lt a.toList b.toList (o.push a[i]).toList (i+1) j:=by
  have:=ml.a M (k:=1) (by simp;lia) (fun x hx y hy=>by
   rw[Gs gF]at hx;have:x=a[i]:=by simpa using hx
   rw[this];exact h _ gF y hy)
  rw[Gs gF]at this;rw[Array.toList_push];exact this
 by_cases e:(i+1+1==a.size)=true
 ·rw[HB e];refine wpS_pure ⟨.refl _, .inl ⟨_,rfl,?_⟩⟩;rw[Bx];exact m2.ls M (by have:=beq_iff_eq.mp e;simp;lia)
 ·rw[Dt e];have e:i+1+1≠a.size:=fun z=>e (Zh z)
  split
  ·exact Wv ⟨.refl _, .inr ⟨rfl,m2,by show i+1+1<a.size;lia,hj,by show m≤i+1+j;lia⟩⟩
  ·exact Wv ⟨.refl _,rfl,m2,by show i+1+1<a.size;lia,hj,by show m≤i+1+j;lia⟩
theorem Lf{st:SortSt}{o:Array Keyed}{i j mg k bc m:Nat}(hk:kindOf st=κ)(ml:ML lt a.toList b.toList o.toList i j)(hi:i+1<a.size)(hj:j<b.size)(hm:m≤i+j+1):wpS (model prog w) A E s (Sl a b o i j mg k bc) (P2 lt a b m st) st:=by
 unfold Sl;have ex:a[i]?=some a[i]:=IM;have gF:a.toList[i]?=some a[i]:=by rw[Array.getElem?_toList];exact ex
 have hx:a[i]∈a.toList:=WI gF;refine wpS_bind (eY ex ?_);generalize a[i]=x at ex gF hx;have gb:∀t,t<b.size-j→b[j+t]?=some (b.getD (j+t) (.none, .none)):=fun t ht=>by simp[show j+t<b.size by lia]
 have rQ:∀t,t<b.size-j→b.toList[j+t]?=some (b.getD (j+t) (.none, .none)):=fun t ht=>by rw[Array.getElem?_toList];exact gb t ht
 refine wpS_bind (qA C (fun t=>b.getD (j+t) (.none, .none)) hk (M.ia _ hx) (fun t ht=>⟨gb t ht,M.ib _ (WI (rQ t ht))⟩) (fun t u h1 h2=>M.sb.at (i:=j+t) (j:=j+u) (by lia) (rQ t (by lia)) (rQ u h2)) (by lia) fun l hl h1 h2=>?_);dsimp only;have low:∀y∈(b.toList.drop j).take l,∀z∈a.toList.drop i,lt y z=true:=fun y hy z hz=>by
  obtain⟨t,ht,et⟩:=tI.mp hy;rw[rQ t (by lia)]at et;cases et;have hb:=h1 t ht;simp only[ll,if_true]at hb;rw[oS gF]at hz;rcases List.mem_cons.mp hz with rfl|hz
  ·exact hb
  ·obtain⟨u,hu⟩:=lJ.mp hz;exact C.tr _ (M.ib _ (WI (rQ t (by lia)))) _ (M.ia _ hx) _ (M.ia _ (WI hu)) hb (M.sa.at D9 gF hu)
 have zy:∀y∈b.toList.drop (j+l),lt x y=true:=fun y hy=>by
  obtain⟨t,ht⟩:=lJ.mp hy;have hZ:=(ZX ht).1;have hZ:j+l+t<b.size:=by simpa using hZ
  have hb:=h2 (l+t) (by lia) (by lia);have e:b.toList[j+(l+t)]?=some y:=by rw[←Nat.add_assoc];exact ht
  rw[rQ (l+t) (by lia)]at e;have e:=WK e;simp only[ll,if_true]at hb;rw[e]at hb;exact C.no (M.ib _ (WI ht)) (M.ia _ hx) (fun z=>M.ne _ hx _ (WI ht) z.symm) hb
 have m2:ML lt a.toList b.toList (o++b.extract j (j+l)).toList i (j+l):=by
  rw[Jp];exact ml.b M Zc low
 by_cases Gu:l>0
 ·rw[HB Gu];by_cases e:(j+l==b.size)=true
  ·rw[HB e];refine wpS_pure ⟨.refl _, .inl ⟨_,rfl,?_⟩⟩;rw[yM];exact m2.dn M (.inr (by have:=beq_iff_eq.mp e;simpa using this))
  ·rw[Dt e];have e:j+l≠b.size:=fun z=>e (Zh z)
   exact EW C M m2 hi D9 (by lia) fun y hy=>by rw[gF]at hy;cases hy;exact zy
 ·rw[Dt Gu];have:l=0:=by lia
  subst this;exact EW C M ml hi hj hm fun y hy=>by rw[gF]at hy;cases hy;exact zy
theorem EX{st:SortSt}{o:Array Keyed}{i j mg k bc m:Nat}(hk:kindOf st=κ)(ml:ML lt a.toList b.toList o.toList i j)(hi:i+1<a.size)(hj:j<b.size)(hm:m≤i+j+2)(h:∀y,b.toList[j]?=some y→∀x∈a.toList.drop i,lt y x=true):wpS (model prog w) A E s (Qf a b o i j mg k bc) (P2 lt a b m st) st:=by
 unfold Qf;have ex:b[j]?=some b[j]:=IM;have gF:b.toList[j]?=some b[j]:=by rw[Array.getElem?_toList];exact ex
 refine wpS_bind (eY ex ?_);have m2:ML lt a.toList b.toList (o.push b[j]).toList i (j+1):=by
  have:=ml.b M (k:=1) (by simp;lia) (fun x hx y hy=>by
   rw[Gs gF]at hx;have:x=b[j]:=by simpa using hx
   rw[this];exact h _ gF y hy)
  rw[Gs gF]at this;rw[Array.toList_push];exact this
 by_cases e:(j+1==b.size)=true
 ·rw[HB e];refine wpS_pure ⟨.refl _, .inl ⟨_,rfl,?_⟩⟩;rw[yM];exact m2.dn M (.inr (by have:=beq_iff_eq.mp e;simpa using this))
 ·rw[Dt e];have e:j+1≠b.size:=fun z=>e (Zh z)
  exact Lf C M hk m2 hi D9 (by lia)
theorem EY{st:SortSt}{o:Array Keyed}{i j mg ac bc m:Nat}(hk:kindOf st=κ)(h:By lt a b o i j m):wpS (model prog w) A E s (Qg a b o i j mg ac bc) (P2 lt a b (m+2) st) st:=by
 obtain⟨ml,hi,hj,hm⟩:=h;unfold Qg;refine wpS_bind (sL fun Ai eg=>?_);have Jq:kindOf Ai=κ:=eg.1.trans hk;have fin:∀{m:Nat}{p:StateT SortSt Sem (ForInStep S2)},wpS (model prog w) A E s p (P2 lt a b m Ai) Ai→wpS (model prog w) A E s p (P2 lt a b m st) Ai:=fun h=>wpS_mono h fun r aT z=>⟨eg.trans z.1,z.2⟩
 refine fin ?_;have ex:b[j]?=some b[j]:=IM;have gF:b.toList[j]?=some b[j]:=by rw[Array.getElem?_toList];exact ex
 have hx:b[j]∈b.toList:=WI gF;refine wpS_bind (eY ex ?_);generalize b[j]=y at ex gF hx;have gb:∀t,t<a.size-i→a[i+t]?=some (a.getD (i+t) (.none, .none)):=fun t ht=>by simp[show i+t<a.size by lia]
 have rQ:∀t,t<a.size-i→a.toList[i+t]?=some (a.getD (i+t) (.none, .none)):=fun t ht=>by rw[Array.getElem?_toList];exact gb t ht
 refine wpS_bind (qA C (fun t=>a.getD (i+t) (.none, .none)) Jq (M.ib _ hx) (fun t ht=>⟨gb t ht,M.ia _ (WI (rQ t ht))⟩) (fun t u h1 h2=>M.sa.at (i:=i+t) (j:=i+u) (by lia) (rQ t (by lia)) (rQ u h2)) (by lia) fun k hl h1 h2=>?_);dsimp only;have low:∀x∈(a.toList.drop i).take k,∀z∈b.toList.drop j,lt x z=true:=fun x uC z hz=>by
  obtain⟨t,ht,et⟩:=tI.mp uC;rw[rQ t (by lia)]at et;cases et;have ja:=WI (rQ t (by lia));have hb:=h1 t ht;simp only[ll,Bool.false_eq_true,if_false,Bool.not_eq_true']at hb;have hb:=C.no (M.ib _ hx) (M.ia _ ja) (fun z=>M.ne _ ja _ hx z.symm) hb;rw[oS gF]at hz;rcases List.mem_cons.mp hz with rfl|hz
  ·exact hb
  ·obtain⟨u,hu⟩:=lJ.mp hz;exact C.tr _ (M.ia _ ja) _ (M.ib _ hx) _ (M.ib _ (WI hu)) hb (M.sb.at D9 gF hu)
 have zy:∀x∈a.toList.drop (i+k),lt y x=true:=fun x uC=>by
  obtain⟨t,ht⟩:=lJ.mp uC;have hZ:=(ZX ht).1;have hZ:i+k+t<a.size:=by simpa using hZ
  have hb:=h2 (k+t) (by lia) (by lia);have e:a.toList[i+(k+t)]?=some x:=by rw[←Nat.add_assoc];exact ht
  rw[rQ (k+t) (by lia)]at e;have e:=WK e;simp only[ll,Bool.false_eq_true,if_false,Bool.not_eq_false']at hb;rw[e]at hb;exact hb
 have m2:ML lt a.toList b.toList (o++a.extract i (i+k)).toList (i+k) j:=by
  rw[Jp];exact ml.a M Zc low
 by_cases xa:k>0
 ·rw[HB xa];by_cases e:(i+k+1==a.size)=true
  ·rw[HB e];refine wpS_pure ⟨.refl _, .inl ⟨_,rfl,?_⟩⟩;rw[Bx];exact m2.ls M (by have:=beq_iff_eq.mp e;simpa using this)
  ·rw[Dt e];have e:i+k+1≠a.size:=fun z=>e (Zh z)
   by_cases e2:(i+k==a.size)=true
   ·rw[HB e2];refine wpS_pure ⟨.refl _, .inl ⟨_,rfl,?_⟩⟩;rw[yM];exact m2.dn M (.inl (by have:=beq_iff_eq.mp e2;simpa using this))
   ·rw[Dt e2];have e2:i+k≠a.size:=fun z=>e2 (Zh z)
    exact EX C M Jq m2 D9 hj D9 fun z hz=>by rw[gF]at hz;cases hz;exact zy
 ·rw[Dt xa];have:k=0:=by lia
  subst this;exact EX C M Jq ml hi hj D9 fun z hz=>by rw[gF]at hz;cases hz;exact zy
theorem Lg{st:SortSt}{c:S2}{m:Nat}(hk:kindOf st=κ)(h:By lt a b c.2.1 c.2.2.1 c.2.2.2.1 m):wpS (model prog w) A E s (Sn a b c) (P2 lt a b (m+2) st) st:=by
 unfold Sn;split
 ·exact EY C M hk h
 ·exact EY C M hk h
theorem Lh{st:SortSt}{c:S1}{mg m:Nat}(hk:kindOf st=κ)(h:By lt a b c.2.1 c.2.2.1 c.2.2.2.1 m):wpS (model prog w) A E s (lo1 a b mg c) (fun r aT=>aT=st∧match r with
  | .done c=>(∃x,c.1=some x∧MG lt a.toList b.toList x.toList)∨(c.1=none∧By lt a b c.2.1 c.2.2.1 c.2.2.2.1 (m+1))
  | .yield c=>c.1=none∧By lt a b c.2.1 c.2.2.1 c.2.2.2.1 (m+1)) st:=by
 obtain⟨r,o,i,j,ac,bc⟩:=c;obtain⟨ml,hi,hj,hm⟩:=h;dsimp only at ml hi hj hm;unfold lo1;dsimp only;have ex:a[i]?=some a[i]:=IM;have gF:a.toList[i]?=some a[i]:=by rw[Array.getElem?_toList];exact ex
 have ey:b[j]?=some b[j]:=IM;have zA:b.toList[j]?=some b[j]:=by rw[Array.getElem?_toList];exact ey
 have hx:a[i]∈a.toList:=WI gF;have hy:b[j]∈b.toList:=WI zA;refine wpS_bind (eY ey (wpS_bind (eY ex ?_)));generalize a[i]=x at ex gF hx;generalize b[j]=y at ey zA hy;refine wpS_bind (C.ask hk (M.ib _ hy) (M.ia _ hx) ?_);dsimp only;cases e:lt y x with
 |true=>
  rw[if_pos rfl];refine wpS_bind (eY ey ?_);have m2:ML lt a.toList b.toList (o.push y).toList i (j+1):=by
   have:=ml.b M (k:=1) (by simp;lia) (fun y' Oq z hz=>by
    rw[Gs zA]at Oq;have:y'=y:=by simpa using Oq
    rw[this];rw[oS gF]at hz;rcases List.mem_cons.mp hz with rfl|hz
    ·exact e
    ·obtain⟨u,hu⟩:=lJ.mp hz;exact C.tr _ (M.ib _ hy) _ (M.ia _ hx) _ (M.ia _ (WI hu)) e (M.sa.at D9 gF hu))
   rw[Gs zA]at this;rw[Array.toList_push];exact this
  by_cases e2:(j+1==b.size)=true
  ·rw[HB e2];refine wpS_pure ⟨rfl, .inl ⟨_,rfl,?_⟩⟩;rw[yM];exact m2.dn M (.inr (by have:=beq_iff_eq.mp e2;simpa using this))
  ·rw[Dt e2];have e2:j+1≠b.size:=fun z=>e2 (Zh z)
   split
   ·exact Wv ⟨rfl, .inr ⟨rfl,m2,hi,by show j+1<b.size;lia,by show m+1≤i+(j+1);lia⟩⟩
   ·exact Wv ⟨rfl,rfl,m2,hi,by show j+1<b.size;lia,by show m+1≤i+(j+1);lia⟩
 |false=>
  rw[if_neg Mi];refine wpS_bind (eY ex ?_);have e:=C.no (M.ib _ hy) (M.ia _ hx) (fun z=>M.ne _ hx _ hy z.symm) e;have m2:ML lt a.toList b.toList (o.push x).toList (i+1) j:=by
   have:=ml.a M (k:=1) (by simp;lia) (fun x' uC z hz=>by
    rw[Gs gF]at uC;have:x'=x:=by simpa using uC
    rw[this];rw[oS zA]at hz;rcases List.mem_cons.mp hz with rfl|hz
    ·exact e
    ·obtain⟨u,hu⟩:=lJ.mp hz;exact C.tr _ (M.ia _ hx) _ (M.ib _ hy) _ (M.ib _ (WI hu)) e (M.sb.at D9 zA hu))
   rw[Gs gF]at this;rw[Array.toList_push];exact this
  by_cases e2:(i+1+1==a.size)=true
  ·rw[HB e2];refine wpS_pure ⟨rfl, .inl ⟨_,rfl,?_⟩⟩;rw[Bx];exact m2.ls M (by have:=beq_iff_eq.mp e2;simpa using this)
  ·rw[Dt e2];have e2:i+1+1≠a.size:=fun z=>e2 (Zh z)
   split
   ·exact Wv ⟨rfl, .inr ⟨rfl,m2,by show i+1+1<a.size;lia,hj,by show m+1≤i+1+j;lia⟩⟩
   ·exact Wv ⟨rfl,rfl,m2,by show i+1+1<a.size;lia,hj,by show m+1≤i+1+j;lia⟩
theorem Li{st:SortSt}{c:S3}{m:Nat}(hk:kindOf st=κ)(h:By lt a b c.2.1 c.2.2.1 c.2.2.2.1 m):wpS (model prog w) A E s (So a b c) (fun r aT=>Eg st aT∧match r with
  | .done c=>∃x,c.1=some x∧MG lt a.toList b.toList x.toList
  | .yield c=>c.1=none∧By lt a b c.2.1 c.2.2.1 c.2.2.2.1 (m+1)) st:=by
 unfold So;refine wpS_bind (wpS_mono (wpS_forRange (I:=fun x c aT=>aT=st∧c.1=none∧By lt a b c.2.1 c.2.2.1 c.2.2.2.1 (m+x)) (Q:=fun c aT=>aT=st∧((∃x,c.1=some x∧MG lt a.toList b.toList x.toList)∨(c.1=none∧By lt a b c.2.1 c.2.2.1 c.2.2.2.1 (m+1)))) ?_ ?_ ⟨rfl,rfl,h⟩) ?_)
 ·rintro x c aT _ hx ⟨rfl,hc,hI⟩;refine wpS_mono (Lh C M hk hI) fun r aT hr=>?_
  obtain⟨rfl,hr⟩:=hr;cases r with
  |done c=>exact⟨rfl,hr.imp id fun z=>⟨z.1,z.2.1,z.2.2.1,z.2.2.2.1,by have:=z.2.2.2.2;lia⟩⟩
  |yield c=>exact⟨rfl,hr.1,hr.2⟩
 ·rintro c aT ⟨rfl,hc,h1,h2,h3,h4⟩
  lia
 rintro t aT ⟨rfl,ht⟩;rcases ht with⟨x,e,hg⟩|⟨e,hI⟩
 ·rw[e];exact Wv ⟨.refl _,x,rfl,hg⟩
 rw[e];dsimp only;refine wpS_bind ε;refine wpS_bind (wpS_mono (wpS_forRange (I:=fun x c dP=>Eg aT dP∧c.1=none∧By lt a b c.2.1 c.2.2.1 c.2.2.2.1 (m+1+x)) (Q:=fun c dP=>Eg aT dP∧((∃x,c.1=some x∧MG lt a.toList b.toList x.toList)∨(c.1=none∧By lt a b c.2.1 c.2.2.1 c.2.2.2.1 (m+1)))) ?_ ?_ ⟨.refl _,rfl,hI⟩) ?_)
 ·rintro x c dP _ hx ⟨eg,hc,hI⟩;refine wpS_mono (Lg C M (eg.1.trans hk) hI) fun r DR hr=>?_
  obtain⟨EZ,hr⟩:=hr;cases r with
  |done c=>exact⟨eg.trans EZ,hr.imp id fun z=>⟨z.1,z.2.1,z.2.2.1,z.2.2.2.1,by have:=z.2.2.2.2;lia⟩⟩
  |yield c=>exact⟨eg.trans EZ,hr.1,hr.2.1,hr.2.2.1,hr.2.2.2.1,by have:=hr.2.2.2.2;lia⟩
 ·rintro c dP ⟨eg,hc,h1,h2,h3,h4⟩
  lia
 rintro u dP ⟨eg,hu⟩;rcases hu with⟨x,e,hg⟩|⟨e,hI⟩
 ·rw[e];exact Wv ⟨eg,x,rfl,hg⟩
 rw[e];dsimp only;exact wpS_bind (sL fun DR Su=>Wv ⟨eg.trans Su,rfl,hI⟩)
theorem Lj{st:SortSt}{Q:Array Keyed→SortSt→Prop}(hk:kindOf st=κ)(ha:0<a.size)(hb:0<b.size)(q:∀r aT,Eg st aT→MG lt a.toList b.toList r.toList→Q r aT):wpS (model prog w) A E s (Ld a b) Q st:=by
 rw[HE];refine wpS_bind ε;have ey:b[0]?=some b[0]:=IM;have zA:b.toList[0]?=some b[0]:=by rw[Array.getElem?_toList];exact ey
 refine wpS_bind (eY ey ?_);have m0:ML lt a.toList b.toList [] 0 0:=⟨IM,IM, .nil,fun x hx=>(by cases hx),IM⟩
 have m1:ML lt a.toList b.toList (#[b[0]]:Array Keyed).toList 0 1:=by
  have:=m0.b M (k:=1) (by simp;lia) (fun y hy x hx=>by
   rw[Gs zA]at hy;have:y=b[0]:=by simpa using hy
   rw[this];exact M.fst x (List.mem_of_mem_drop hx) _ zA)
  rw[Gs zA]at this;exact this
 by_cases e:(1==b.size)=true
 ·rw[HB e];refine wpS_pure (q _ _ (.refl _) ?_);rw[yM];exact m1.dn M (.inr (by have:=beq_iff_eq.mp e;simpa using this))
 rw[Dt e];have e:1≠b.size:=fun z=>e (Zh z)
 by_cases e2:(0+1==a.size)=true
 ·rw[HB e2];refine wpS_pure (q _ _ (.refl _) ?_);rw[Bx];exact m1.ls M (by have:=beq_iff_eq.mp e2;simpa using this)
 rw[Dt e2];have e2:0+1≠a.size:=fun z=>e2 (Zh z)
 refine wpS_bind (wpS_get ?_);refine wpS_bind (wpS_mono (wpS_forRange (I:=fun x c dP=>Eg st dP∧c.1=none∧By lt a b c.2.1 c.2.2.1 c.2.2.2.1 x) (Q:=fun c dP=>Eg st dP∧∃x,c.1=some x∧MG lt a.toList b.toList x.toList) ?_ ?_ ⟨.refl _,rfl,m1,by show 0+1<a.size;lia,by show 1<b.size;lia,by show 0≤0+1;lia⟩) ?_)
 ·rintro x c dP _ hx ⟨eg,hc,hI⟩;refine wpS_mono (Li C M (eg.1.trans hk) hI) fun r DR hr=>?_
  obtain⟨EZ,hr⟩:=hr;cases r with
  |done c=>exact⟨eg.trans EZ,hr⟩
  |yield c=>exact⟨eg.trans EZ,hr⟩
 ·rintro c dP ⟨eg,hc,h1,h2,h3,h4⟩
  lia
 ·rintro c dP ⟨eg,x,e,hg⟩;rw[e];exact Wv (q x dP eg hg)
end
theorem xb{α:Type}{l:List α}{i:Nat}{x:α}:x∈l.take i↔∃t:Nat,t<i∧l[t]?=some x:=by
 have:=tI (l:=l) (i:=0) (k:=i) (x:=x);simpa using this
theorem yN{α:Type}{l:List α}{i t:Nat}{x:α}:x∈(l.take i).drop t↔∃u:Nat,t≤u∧u<i∧l[u]?=some x:=by
 rw[lJ];constructor
 ·rintro⟨u,hu⟩;rw[List.getElem?_take]at hu;split at hu
  ·exact⟨t+u,by lia,by assumption,hu⟩
  ·cases hu
 ·rintro⟨u,h1,h2,h3⟩;exact⟨u-t,by rw[List.getElem?_take,HB D9,show t+(u-t)=u by lia];exact h3⟩
theorem yO{α:Type}(l:List α){i t:Nat}(h:t≤i):l.take i=l.take t++(l.take i).drop t:=by
 conv=>lhs;rw[←List.take_append_drop t (l.take i)]
 rw[List.take_take,Nat.min_eq_left h]
section
variable{X:List Keyed}{lt:Keyed→Keyed→Bool}{P Q:List Keyed}
structure MH(lt:Keyed→Keyed→Bool)(P Q O:List Keyed)(i j:Nat):Prop where
 hi:i≤P.length
 hj:j≤Q.length
 qB:Pw lt O
 zy:∀y∈O,∀x,x∈P.take i∨x∈Q.take j→lt x y=true
 HI:((P.take i++Q.take j)++O).Perm (P++Q)
theorem MH.a{O:List Keyed}{i j t:Nat}(M:MC X lt P Q)(m:MH lt P Q O i j)(ht:t≤i)(h:∀x∈(P.take i).drop t,∀y∈Q.take j,lt y x=true):MH lt P Q ((P.take i).drop t++O) t j:=by
 have sp:=yO P ht;have sd:Pw lt (P.take i):=M.sa.sublist (List.take_sublist _ _);rw[sp]at sd;obtain⟨s1,s2,s3⟩:=Κ sd;refine⟨by have:=m.hi;lia,m.hj,Γ ⟨s2,m.qB,fun x hx y hy=>m.zy y hy x (.inl (List.mem_of_mem_drop hx))⟩,fun y hy x hx=>?_,?_⟩
 ·rcases List.mem_append.mp hy with hy|hy
  ·rcases hx with hx|hx
   ·exact s3 x hx y hy
   ·exact h y hy x hx
  ·exact m.zy y hy x (hx.imp (fun z=>by rw[sp];exact Zw z) id)
 ·have:=m.HI;rw[sp]at this;refine List.Perm.trans ?_ this;rw[←List.append_assoc];refine List.Perm.append_right O ?_;rw[List.append_assoc,List.append_assoc];exact List.Perm.append_left _ List.perm_append_comm
theorem MH.b{O:List Keyed}{i j t:Nat}(M:MC X lt P Q)(m:MH lt P Q O i j)(ht:t≤j)(h:∀y∈(Q.take j).drop t,∀x∈P.take i,lt x y=true):MH lt P Q ((Q.take j).drop t++O) i t:=by
 have sp:=yO Q ht;have sd:Pw lt (Q.take j):=M.sb.sublist (List.take_sublist _ _);rw[sp]at sd;obtain⟨s1,s2,s3⟩:=Κ sd;refine⟨m.hi,by have:=m.hj;lia,Γ ⟨s2,m.qB,fun x hx y hy=>m.zy y hy x (.inr (List.mem_of_mem_drop hx))⟩,fun y hy x hx=>?_,?_⟩
 ·rcases List.mem_append.mp hy with hy|hy
  ·rcases hx with hx|hx
   ·exact h y hy x hx
   ·exact s3 x hx y hy
  ·exact m.zy y hy x (hx.imp id (fun z=>by rw[sp];exact Zw z))
 ·have:=m.HI;rw[sp]at this;rw[←List.append_assoc,List.append_assoc (P.take i)];exact this
theorem MH.dn{O:List Keyed}{i j:Nat}(M:MC X lt P Q)(m:MH lt P Q O i j)(h:i=0∨j=0):MG lt P Q (P.take i++Q.take j++O):=by
 refine⟨m.HI,?_⟩;have sa:Pw lt (P.take i):=M.sa.sublist (List.take_sublist _ _);have sb:Pw lt (Q.take j):=M.sb.sublist (List.take_sublist _ _);refine List.pairwise_append.mpr ⟨Γ ⟨sa,sb,fun x hx y hy=>?_⟩,m.qB,fun x hx y hy=>m.zy y hy x (List.mem_append.mp hx)⟩;rcases h with h|h
 ·rw[h,List.take_zero]at hx;cases hx
 ·rw[h,List.take_zero]at hy;cases hy
theorem MH.fb{O:List Keyed}{i j:Nat}(M:MC X lt P Q)(m:MH lt P Q O i j)(h:j=1):MG lt P Q (Q.take j++P.take i++O):=by
 have sa:Pw lt (P.take i):=M.sa.sublist (List.take_sublist _ _);have sb:Pw lt (Q.take j):=M.sb.sublist (List.take_sublist _ _);refine⟨(List.Perm.append_right O List.perm_append_comm).trans m.HI,Γ ⟨Γ ⟨sb,sa,fun y hy x hx=>?_⟩,m.qB,fun x hx y hy=>m.zy y hy x (List.mem_append.mp hx).symm⟩⟩;obtain⟨t,h1,h2⟩:=xb.mp hy;have:t=0:=by lia
 subst this;exact M.fst x (ui hx) y h2
end
section
variable{prog:Program}{w:World}{A:Around}{E:Value→Shared→Prop}{s:Shared}{X:List Keyed}{κ:SortKind}{lt:Keyed→Keyed→Bool}(C:EV prog w A s X κ lt){a b:Array Keyed}(M:MC X lt a.toList b.toList)
theorem yP(o:Array Keyed)(i j:Nat):(Gr a b o i j).toList=a.toList.take i++b.toList.take j++o.toList.reverse:=by
 unfold Gr;simp[Array.toList_extract,List.extract_eq_take_drop]
theorem Bz(o:Array Keyed)(i j:Nat):(My a b o i j).toList=b.toList.take j++a.toList.take i++o.toList.reverse:=by
 unfold My;simp[Array.toList_extract,List.extract_eq_take_drop]
theorem Jr(o:Array Keyed)(c:Array Keyed)(t i:Nat):(o++(c.extract t i).reverse).toList.reverse=(c.toList.take i).drop t++o.toList.reverse:=by
 simp[Array.toList_extract,List.extract_eq_take_drop,List.drop_take]
theorem BB(o:Array Keyed)(x:Keyed):(o.push x).toList.reverse=[x]++o.toList.reverse:=IM
theorem Gv{l:List Keyed}{i:Nat}{x:Keyed}(h0:0<i)(h:l[i-1]?=some x):(l.take i).drop (i-1)=[x]:=by
 have:l.take i=l.take (i-1)++[x]:=by
  conv=>lhs;rw[show i=i-1+1 by lia]
  rw[List.take_succ,h];rfl
 rw[this];have hl:=(ZX h).1;rw[List.drop_left' Zc]
theorem sM{l:List Keyed}(C:EV prog w A s X κ lt)(hs:Pw lt l)(oe:∀x∈l,x∈X){i:Nat}{x z:Keyed}(h:l[i-1]?=some x)(hz:z∈l.take i){y:Keyed}(hy:y∈X)(yQ:lt x y=true):lt z y=true:=by
 obtain⟨t,h1,h2⟩:=xb.mp hz;by_cases e:t=i-1
 ·subst e;rw[h]at h2;cases h2;exact yQ
 ·exact C.tr _ (oe _ (WI h2)) _ (oe _ (WI h)) _ hy (hs.at D9 h2 h) yQ
def BC(lt:Keyed→Keyed→Bool)(a b:Array Keyed)(o:Array Keyed)(i j m:Nat):Prop:=MH lt a.toList b.toList o.toList.reverse i j∧0<i∧1<j∧m+i+j≤a.size+b.size
def Lk(lt:Keyed→Keyed→Bool)(a b:Array Keyed)(m:Nat)(st:SortSt)(r:ForInStep T2)(aT:SortSt):Prop:=Eg st aT∧match r with
 | .done c=>(∃x,c.1=some x∧MG lt a.toList b.toList x.toList)∨(c.1=none∧BC lt a b c.2.2.2.1 c.2.1 c.2.2.1 m)
 | .yield c=>c.1=none∧BC lt a b c.2.2.2.1 c.2.1 c.2.2.1 m
include C M
theorem E2{st:SortSt}{o:Array Keyed}{i j mg k l m:Nat}(ml:MH lt a.toList b.toList o.toList.reverse i j)(hi:0<i)(hj:1<j)(hm:m+i+j≤a.size+b.size+1)(h:∀x,a.toList[i-1]?=some x→∀y∈b.toList.take j,lt y x=true):wpS (model prog w) A E s (Qh a b o i j mg k l) (Lk lt a b m st) st:=by
 unfold Qh;have Sx:i≤a.size:=by have:=ml.hi;simpa using this
 have ex:a[i-1]?=some a[i-1]:=IM;have gF:a.toList[i-1]?=some a[i-1]:=by rw[Array.getElem?_toList];exact ex
 refine wpS_bind (eY ex ?_);have m2:MH lt a.toList b.toList (o.push a[i-1]).toList.reverse (i-1) j:=by
  have:=ml.a M (t:=i-1) (by lia) (fun x hx y hy=>by
   rw[Gv hi gF]at hx;have:x=a[i-1]:=by simpa using hx
   rw[this];exact h _ gF y hy)
  rw[Gv hi gF]at this;rw[BB];exact this
 by_cases e:(i-1==0)=true
 ·rw[HB e];refine wpS_pure ⟨.refl _, .inl ⟨_,rfl,?_⟩⟩;rw[yP];exact m2.dn M (.inl (beq_iff_eq.mp e))
 ·rw[Dt e];have e:i-1≠0:=fun z=>e (Zh z)
  split
  ·exact Wv ⟨.refl _, .inr ⟨rfl,m2,by show 0<i-1;lia,hj,by show m+(i-1)+j≤_;lia⟩⟩
  ·exact Wv ⟨.refl _,rfl,m2,by show 0<i-1;lia,hj,by show m+(i-1)+j≤_;lia⟩
theorem Ll{st:SortSt}{o:Array Keyed}{i j mg k bc m:Nat}(hk:kindOf st=κ)(ml:MH lt a.toList b.toList o.toList.reverse i j)(hi:0<i)(hj:1<j)(hm:m+i+j≤a.size+b.size+1):wpS (model prog w) A E s (Sq a b o i j mg k bc) (Lk lt a b m st) st:=by
 unfold Sq;have Sx:i≤a.size:=by have:=ml.hi;simpa using this
 have Sy:j≤b.size:=by have:=ml.hj;simpa using this
 have ex:a[i-1]?=some a[i-1]:=IM;have gF:a.toList[i-1]?=some a[i-1]:=by rw[Array.getElem?_toList];exact ex
 have hx:a[i-1]∈a.toList:=WI gF;refine wpS_bind (eY ex ?_);generalize a[i-1]=x at ex gF hx;have gb:∀t,t<j→b[0+t]?=some (b.getD t (.none, .none)):=fun t ht=>by simp[show t<b.size by lia]
 have rQ:∀t,t<j→b.toList[t]?=some (b.getD t (.none, .none)):=fun t ht=>by rw[Array.getElem?_toList];simpa using gb t ht
 refine wpS_bind (qA C (fun t=>b.getD t (.none, .none)) hk (M.ia _ hx) (fun t ht=>⟨gb t ht,M.ib _ (WI (rQ t ht))⟩) (fun t u h1 h2=>M.sb.at h1 (rQ t (by lia)) (rQ u h2)) (by lia) fun t hl h1 h2=>?_);dsimp only;have zy:∀y∈(b.toList.take j).drop t,∀z∈a.toList.take i,lt z y=true:=fun y hy z hz=>by
  obtain⟨u,h3,h4,h5⟩:=yN.mp hy;have hb:=h2 u h3 h4;rw[rQ u h4]at h5;have h5:=WK h5;simp only[ll,if_true]at hb;rw[h5]at hb;have Sz:=ui (List.mem_of_mem_drop hy);have hb:=C.no (M.ib _ Sz) (M.ia _ hx) (fun z=>M.ne _ hx _ Sz z.symm) hb;exact sM C M.sa M.ia gF hz (M.ib _ Sz) hb
 have low:∀y∈b.toList.take t,lt y x=true:=fun y hy=>by
  obtain⟨u,h3,h4⟩:=xb.mp hy;have hb:=h1 u h3;rw[rQ u D9]at h4;have h4:=WK h4;simp only[ll,if_true]at hb;rw[h4]at hb;exact hb
 have m2:MH lt a.toList b.toList (o++(b.extract t j).reverse).toList.reverse i t:=by
  rw[Jr];exact ml.b M hl zy
 by_cases Gu:j-t>0
 ·rw[HB Gu];by_cases e:(t==1)=true
  ·rw[HB e];refine wpS_pure ⟨.refl _, .inl ⟨_,rfl,?_⟩⟩;rw[Bz];exact m2.fb M (beq_iff_eq.mp e)
  ·rw[Dt e];have e:t≠1:=fun z=>e (Zh z)
   by_cases e2:(t==0)=true
   ·rw[HB e2];refine wpS_pure ⟨.refl _, .inl ⟨_,rfl,?_⟩⟩;rw[yP];exact m2.dn M (.inr (beq_iff_eq.mp e2))
   ·rw[Dt e2];have e2:t≠0:=fun z=>e2 (Zh z)
    exact E2 C M m2 hi D9 (by lia) fun y hy=>by rw[gF]at hy;cases hy;exact low
 ·rw[Dt Gu];have:t=j:=by lia
  subst this;exact E2 C M ml hi hj hm fun y hy=>by rw[gF]at hy;cases hy;exact low
theorem E3{st:SortSt}{o:Array Keyed}{i j mg k bc m:Nat}(hk:kindOf st=κ)(ml:MH lt a.toList b.toList o.toList.reverse i j)(hi:0<i)(hj:1<j)(hm:m+i+j≤a.size+b.size+2)(h:∀y,b.toList[j-1]?=some y→∀x∈a.toList.take i,lt x y=true):wpS (model prog w) A E s (Qi a b o i j mg k bc) (Lk lt a b m st) st:=by
 unfold Qi;have Sy:j≤b.size:=by have:=ml.hj;simpa using this
 have ex:b[j-1]?=some b[j-1]:=IM;have gF:b.toList[j-1]?=some b[j-1]:=by rw[Array.getElem?_toList];exact ex
 refine wpS_bind (eY ex ?_);have m2:MH lt a.toList b.toList (o.push b[j-1]).toList.reverse i (j-1):=by
  have:=ml.b M (t:=j-1) (by lia) (fun x hx y hy=>by
   rw[Gv D9 gF]at hx;have:x=b[j-1]:=by simpa using hx
   rw[this];exact h _ gF y hy)
  rw[Gv D9 gF]at this;rw[BB];exact this
 by_cases e:(j-1==1)=true
 ·rw[HB e];refine wpS_pure ⟨.refl _, .inl ⟨_,rfl,?_⟩⟩;rw[Bz];exact m2.fb M (beq_iff_eq.mp e)
 ·rw[Dt e];have e:j-1≠1:=fun z=>e (Zh z)
  exact Ll C M hk m2 hi D9 (by lia)
theorem E4{st:SortSt}{o:Array Keyed}{i j mg ac bc m:Nat}(hk:kindOf st=κ)(h:BC lt a b o i j m):wpS (model prog w) A E s (zx a b o i j mg ac bc) (Lk lt a b (m+2) st) st:=by
 obtain⟨ml,hi,hj,hm⟩:=h;have Sx:i≤a.size:=by have:=ml.hi;simpa using this
 have Sy:j≤b.size:=by have:=ml.hj;simpa using this
 unfold zx;refine wpS_bind (sL fun Ai eg=>?_);have Jq:kindOf Ai=κ:=eg.1.trans hk;have fin:∀{m:Nat}{p:StateT SortSt Sem (ForInStep T2)},wpS (model prog w) A E s p (Lk lt a b m Ai) Ai→wpS (model prog w) A E s p (Lk lt a b m st) Ai:=fun h=>wpS_mono h fun r aT z=>⟨eg.trans z.1,z.2⟩
 refine fin ?_;have ex:b[j-1]?=some b[j-1]:=IM;have gF:b.toList[j-1]?=some b[j-1]:=by rw[Array.getElem?_toList];exact ex
 have hx:b[j-1]∈b.toList:=WI gF;refine wpS_bind (eY ex ?_);generalize b[j-1]=y at ex gF hx;have gb:∀t,t<i→a[0+t]?=some (a.getD t (.none, .none)):=fun t ht=>by simp[show t<a.size by lia]
 have rQ:∀t,t<i→a.toList[t]?=some (a.getD t (.none, .none)):=fun t ht=>by rw[Array.getElem?_toList];simpa using gb t ht
 refine wpS_bind (qA C (fun t=>a.getD t (.none, .none)) Jq (M.ib _ hx) (fun t ht=>⟨gb t ht,M.ia _ (WI (rQ t ht))⟩) (fun t u h1 h2=>M.sa.at h1 (rQ t (by lia)) (rQ u h2)) (by lia) fun t hl h1 h2=>?_);dsimp only;have zy:∀x∈(a.toList.take i).drop t,∀z∈b.toList.take j,lt z x=true:=fun x uC z hz=>by
  obtain⟨u,h3,h4,h5⟩:=yN.mp uC;have hb:=h2 u h3 h4;rw[rQ u h4]at h5;have h5:=WK h5;simp only[ll,Bool.false_eq_true,if_false,Bool.not_eq_false']at hb;rw[h5]at hb;exact sM C M.sb M.ib gF hz (M.ia _ (ui (List.mem_of_mem_drop uC))) hb
 have low:∀x∈a.toList.take t,lt x y=true:=fun x uC=>by
  obtain⟨u,h3,h4⟩:=xb.mp uC;have hb:=h1 u h3;rw[rQ u D9]at h4;have h4:=WK h4;have Cq:=ui uC;simp only[ll,Bool.false_eq_true,if_false,Bool.not_eq_true']at hb;rw[h4]at hb;exact C.no (M.ib _ hx) (M.ia _ Cq) (fun z=>M.ne _ Cq _ hx z.symm) hb
 have m2:MH lt a.toList b.toList (o++(a.extract t i).reverse).toList.reverse t j:=by
  rw[Jr];exact ml.a M hl zy
 by_cases xa:i-t>0
 ·rw[HB xa];by_cases e:(t==0)=true
  ·rw[HB e];refine wpS_pure ⟨.refl _, .inl ⟨_,rfl,?_⟩⟩;rw[yP];exact m2.dn M (.inl (beq_iff_eq.mp e))
  ·rw[Dt e];have e:t≠0:=fun z=>e (Zh z)
   exact E3 C M Jq m2 D9 hj D9 fun z hz=>by rw[gF]at hz;cases hz;exact low
 ·rw[Dt xa];have:t=i:=by lia
  subst this;exact E3 C M Jq ml hi hj D9 fun z hz=>by rw[gF]at hz;cases hz;exact low
theorem Lm{st:SortSt}{c:T2}{m:Nat}(hk:kindOf st=κ)(h:BC lt a b c.2.2.2.1 c.2.1 c.2.2.1 m):wpS (model prog w) A E s (Sr a b c) (Lk lt a b (m+2) st) st:=by
 unfold Sr;split
 ·exact E4 C M hk h
 ·exact E4 C M hk h
theorem Ln{st:SortSt}{c:T1}{mg m:Nat}(hk:kindOf st=κ)(h:BC lt a b c.2.2.2.1 c.2.1 c.2.2.1 m):wpS (model prog w) A E s (HF a b mg c) (fun r aT=>aT=st∧match r with
  | .done c=>(∃x,c.1=some x∧MG lt a.toList b.toList x.toList)∨(c.1=none∧BC lt a b c.2.2.2.1 c.2.1 c.2.2.1 (m+1))
  | .yield c=>c.1=none∧BC lt a b c.2.2.2.1 c.2.1 c.2.2.1 (m+1)) st:=by
 obtain⟨r,i,j,o,ac,bc⟩:=c;obtain⟨ml,hi,hj,hm⟩:=h;dsimp only at ml hi hj hm;have Sx:i≤a.size:=by have:=ml.hi;simpa using this
 have Sy:j≤b.size:=by have:=ml.hj;simpa using this
 unfold HF;dsimp only;have ex:a[i-1]?=some a[i-1]:=IM;have gF:a.toList[i-1]?=some a[i-1]:=by rw[Array.getElem?_toList];exact ex
 have ey:b[j-1]?=some b[j-1]:=IM;have zA:b.toList[j-1]?=some b[j-1]:=by rw[Array.getElem?_toList];exact ey
 have hx:a[i-1]∈a.toList:=WI gF;have hy:b[j-1]∈b.toList:=WI zA;refine wpS_bind (eY ey (wpS_bind (eY ex ?_)));generalize a[i-1]=x at ex gF hx;generalize b[j-1]=y at ey zA hy;refine wpS_bind (C.ask hk (M.ib _ hy) (M.ia _ hx) ?_);dsimp only;cases e:lt y x with
 |true=>
  rw[if_pos rfl];refine wpS_bind (eY ex ?_);have m2:MH lt a.toList b.toList (o.push x).toList.reverse (i-1) j:=by
   have:=ml.a M (t:=i-1) (by lia) (fun x' uC z hz=>by
    rw[Gv hi gF]at uC;have:x'=x:=by simpa using uC
    rw[this];exact sM C M.sb M.ib zA hz (M.ia _ hx) e)
   rw[Gv hi gF]at this;rw[BB];exact this
  by_cases e2:(i-1==0)=true
  ·rw[HB e2];refine wpS_pure ⟨rfl, .inl ⟨_,rfl,?_⟩⟩;rw[yP];exact m2.dn M (.inl (beq_iff_eq.mp e2))
  ·rw[Dt e2];have e2:i-1≠0:=fun z=>e2 (Zh z)
   split
   ·exact Wv ⟨rfl, .inr ⟨rfl,m2,by show 0<i-1;lia,hj,by show m+1+(i-1)+j≤_;lia⟩⟩
   ·exact Wv ⟨rfl,rfl,m2,by show 0<i-1;lia,hj,by show m+1+(i-1)+j≤_;lia⟩
 |false=>
  rw[if_neg Mi];refine wpS_bind (eY ey ?_);have e:=C.no (M.ib _ hy) (M.ia _ hx) (fun z=>M.ne _ hx _ hy z.symm) e;have m2:MH lt a.toList b.toList (o.push y).toList.reverse i (j-1):=by
   have:=ml.b M (t:=j-1) (by lia) (fun y' Oq z hz=>by
    rw[Gv D9 zA]at Oq;have:y'=y:=by simpa using Oq
    rw[this];exact sM C M.sa M.ia gF hz (M.ib _ hy) e)
   rw[Gv D9 zA]at this;rw[BB];exact this
  by_cases e2:(j-1==1)=true
  ·rw[HB e2];refine wpS_pure ⟨rfl, .inl ⟨_,rfl,?_⟩⟩;rw[Bz];exact m2.fb M (beq_iff_eq.mp e2)
  ·rw[Dt e2];have e2:j-1≠1:=fun z=>e2 (Zh z)
   split
   ·exact Wv ⟨rfl, .inr ⟨rfl,m2,hi,by show 1<j-1;lia,by show m+1+i+(j-1)≤_;lia⟩⟩
   ·exact Wv ⟨rfl,rfl,m2,hi,by show 1<j-1;lia,by show m+1+i+(j-1)≤_;lia⟩
theorem Lo{st:SortSt}{c:T3}{m:Nat}(hk:kindOf st=κ)(h:BC lt a b c.2.2.2.1 c.2.1 c.2.2.1 m):wpS (model prog w) A E s (Ss a b c) (fun r aT=>Eg st aT∧match r with
  | .done c=>∃x,c.1=some x∧MG lt a.toList b.toList x.toList
  | .yield c=>c.1=none∧BC lt a b c.2.2.2.1 c.2.1 c.2.2.1 (m+1)) st:=by
 unfold Ss;refine wpS_bind (wpS_mono (wpS_forRange (I:=fun x c aT=>aT=st∧c.1=none∧BC lt a b c.2.2.2.1 c.2.1 c.2.2.1 (m+x)) (Q:=fun c aT=>aT=st∧((∃x,c.1=some x∧MG lt a.toList b.toList x.toList)∨(c.1=none∧BC lt a b c.2.2.2.1 c.2.1 c.2.2.1 (m+1)))) ?_ ?_ ⟨rfl,rfl,h⟩) ?_)
 ·rintro x c aT _ hx ⟨rfl,hc,hI⟩;refine wpS_mono (Ln C M hk hI) fun r aT hr=>?_
  obtain⟨rfl,hr⟩:=hr;cases r with
  |done c=>exact⟨rfl,hr.imp id fun z=>⟨z.1,z.2.1,z.2.2.1,z.2.2.2.1,by have:=z.2.2.2.2;lia⟩⟩
  |yield c=>exact⟨rfl,hr.1,hr.2⟩
 ·rintro c aT ⟨rfl,hc,h1,h2,h3,h4⟩
  lia
 rintro t aT ⟨rfl,ht⟩;rcases ht with⟨x,e,hg⟩|⟨e,hI⟩
 ·rw[e];exact Wv ⟨.refl _,x,rfl,hg⟩
 rw[e];dsimp only;refine wpS_bind ε;refine wpS_bind (wpS_mono (wpS_forRange (I:=fun x c dP=>Eg aT dP∧c.1=none∧BC lt a b c.2.2.2.1 c.2.1 c.2.2.1 (m+1+x)) (Q:=fun c dP=>Eg aT dP∧((∃x,c.1=some x∧MG lt a.toList b.toList x.toList)∨(c.1=none∧BC lt a b c.2.2.2.1 c.2.1 c.2.2.1 (m+1)))) ?_ ?_ ⟨.refl _,rfl,hI⟩) ?_)
 ·rintro x c dP _ hx ⟨eg,hc,hI⟩;refine wpS_mono (Lm C M (eg.1.trans hk) hI) fun r DR hr=>?_
  obtain⟨EZ,hr⟩:=hr;cases r with
  |done c=>exact⟨eg.trans EZ,hr.imp id fun z=>⟨z.1,z.2.1,z.2.2.1,z.2.2.2.1,by have:=z.2.2.2.2;lia⟩⟩
  |yield c=>exact⟨eg.trans EZ,hr.1,hr.2.1,hr.2.2.1,hr.2.2.2.1,by have:=hr.2.2.2.2;lia⟩
 ·rintro c dP ⟨eg,hc,h1,h2,h3,h4⟩
  lia
 rintro u dP ⟨eg,hu⟩;rcases hu with⟨x,e,hg⟩|⟨e,hI⟩
 ·rw[e];exact Wv ⟨eg,x,rfl,hg⟩
 rw[e];dsimp only;exact wpS_bind (sL fun DR Su=>Wv ⟨eg.trans Su,rfl,hI⟩)
theorem Lp{st:SortSt}{Q:Array Keyed→SortSt→Prop}(hk:kindOf st=κ)(ha:0<a.size)(hb:0<b.size)(q:∀r aT,Eg st aT→MG lt a.toList b.toList r.toList→Q r aT):wpS (model prog w) A E s (Le a b) Q st:=by
 rw[HH];refine wpS_bind ε;have ex:a[a.size-1]?=some a[a.size-1]:=IM;have gF:a.toList[a.size-1]?=some a[a.size-1]:=by rw[Array.getElem?_toList];exact ex
 refine wpS_bind (eY ex ?_);have m0:MH lt a.toList b.toList [] a.size b.size:=⟨IM,IM, .nil,fun x hx=>(by cases hx),by rw[List.take_of_length_le Mi,List.take_of_length_le Mi];simp⟩
 have m1:MH lt a.toList b.toList (#[a[a.size-1]]:Array Keyed).toList.reverse (a.size-1) b.size:=by
  have:=m0.a M (t:=a.size-1) (by lia) (fun x hx y hy=>by
   rw[Gv ha gF]at hx;have:x=a[a.size-1]:=by simpa using hx
   rw[this];exact M.lst y (ui hy) _ (by simpa using gF))
  rw[Gv ha gF]at this;simpa using this
 by_cases e:(a.size-1==0)=true
 ·rw[HB e];refine wpS_pure (q _ _ (.refl _) ?_);rw[yP];exact m1.dn M (.inl (beq_iff_eq.mp e))
 rw[Dt e];have e:a.size-1≠0:=fun z=>e (Zh z)
 by_cases e2:(b.size==1)=true
 ·rw[HB e2];refine wpS_pure (q _ _ (.refl _) ?_);rw[Bz];exact m1.fb M (beq_iff_eq.mp e2)
 rw[Dt e2];have e2:b.size≠1:=fun z=>e2 (Zh z)
 refine wpS_bind (wpS_get ?_);refine wpS_bind (wpS_mono (wpS_forRange (I:=fun x c dP=>Eg st dP∧c.1=none∧BC lt a b c.2.2.2.1 c.2.1 c.2.2.1 x) (Q:=fun c dP=>Eg st dP∧∃x,c.1=some x∧MG lt a.toList b.toList x.toList) ?_ ?_ ⟨.refl _,rfl,m1,by show 0<a.size-1;lia,by show 1<b.size;lia,by show 0+(a.size-1)+b.size≤_;lia⟩) ?_)
 ·rintro x c dP _ hx ⟨eg,hc,hI⟩;refine wpS_mono (Lo C M (eg.1.trans hk) hI) fun r DR hr=>?_
  obtain⟨EZ,hr⟩:=hr;cases r with
  |done c=>exact⟨eg.trans EZ,hr⟩
  |yield c=>exact⟨eg.trans EZ,hr⟩
 ·rintro c dP ⟨eg,hc,h1,h2,h3,h4⟩
  lia
 ·rintro c dP ⟨eg,x,e,hg⟩;rw[e];exact Wv (q x dP eg hg)
end
def Qj(lo i n:Nat):StateT SortSt Sem AscSt:=forIn [i:n] ((none,i):AscSt) fun _ c=>do
 let z←ltAt' (lo+c.2) (lo+c.2-1)
 match z with
 |some v=>if v=true then pure (.done (none,c.2))else pure (.yield (none,c.2+1))
 | _=>pure (.done (some none,c.2))
def Qk(lo i n:Nat):StateT SortSt Sem (Option Nat):=do
 reverseSlice' lo (lo+i)
 let t←Qj lo i n
 match t.1 with
 |some r=>pure r
 |none=>pure (some t.2)
def SA(lo i n:Nat):StateT SortSt Sem DescSt:=forIn [i:n] ((none,i,0):DescSt) fun _ c=>do
 let z←ltAt' (lo+c.2.1) (lo+c.2.1-1)
 match z with
 |some v=>
  if v=true then
   if c.2.2>0 then do
    reverseSlice' (lo+c.2.1-(c.2.2+1)) (lo+c.2.1)
    pure (.yield (none,c.2.1+1,0))
   else pure (.yield (none,c.2.1+1,0))
  else do
   let z←ltAt' (lo+c.2.1-1) (lo+c.2.1)
   match z with
   |some v=>if v=true then pure (.done (none,c.2.1,c.2.2))else pure (.yield (none,c.2.1+1,c.2.2+1))
   | _=>pure (.done (some none,c.2.1,c.2.2))
 | _=>pure (.done (some none,c.2.1,c.2.2))
def SD(lo i n:Nat):StateT SortSt Sem (Option Nat):=do
 liftM (rule "list.sort.descending-run")
 let t←SA lo (i+1) n
 match t.1 with
 |some r=>pure r
 |none=>
  if t.2.2>0 then do
   reverseSlice' (lo+t.2.1-(t.2.2+1)) (lo+t.2.1)
   Qk lo t.2.1 n
  else Qk lo t.2.1 n
theorem Lq(lo n:Nat):countRun' lo n=(do
 let t←Qj lo 1 n
 match t.1 with
 |some r=>pure r
 |none=>
  if (t.2==n)=true then pure (some t.2)
  else if t.2>1 then do
   let z←ltAt' lo (lo+t.2-1)
   match z with
   |some v=>if v=true then pure (some t.2)else do
     reverseSlice' lo (lo+t.2)
     SD lo t.2 n
   | _=>pure none
  else SD lo t.2 n):=by kernel_rfl
def UU(lo k:Nat):StateT SortSt Sem (Option Bool×Nat×Nat):=forIn [0:k] ((none,0,k):Option Bool×Nat×Nat) fun _ c=>
 if c.2.1≥c.2.2 then pure (.done (none,c.2.1,c.2.2))
 else do
  let z←ltAt' (lo+k) (lo+(c.2.1+c.2.2)/2)
  match z with
  |some v=>if v=true then pure (.yield (none,c.2.1,(c.2.1+c.2.2)/2))else pure (.yield (none,(c.2.1+c.2.2)/2+1,c.2.2))
  | _=>pure (.done (some false,c.2.1,c.2.2))
theorem Lr(lo n ok:Nat):binarySort' lo n ok=(do
 let t←forIn [max ok 1:n] ((none,()):Option Bool×Unit) fun k _=>do
  let t←UU lo k
  match t.1 with
  |some r=>pure (.done (some r,()))
  |none=>do
   moveDown' (lo+k) (lo+t.2.1)
   pure (.yield (none,()))
 match t.1 with
 |some r=>pure r
 |none=>pure true):=by kernel_rfl
def Dz(j:Nat)(m:Array Keyed)(st:SortSt):SortSt:=setArr st (m.toList.zipIdx.foldl (fun c q=>c.setIfInBounds (j+q.2) q.1) (Hi st))
theorem Ls(i:Nat):mergeAt' i=(do
 let g←get
 let (some (p,m,v),some (q,n,_)):=((VN g)[i]?,(VN g)[i+1]?)|unsupported "internal:list.sort.pending"
 set (setPending g (((VN g).setIfInBounds i (p,m+n,v)).eraseIdxIfInBounds (i+1)))
 let some k←yL false (←elem' (Hi g) q) (Hi g) p m 0|return false
 if m-k==0 then return true
 let some n←yL true (←elem' (Hi g) (p+k+(m-k)-1)) (Hi g) q n (n-1)|return false
 if n==0 then return true
 let r←if m-k≤n then Ld ((Hi g).extract (p+k) q) ((Hi g).extract q (q+n))else Le ((Hi g).extract (p+k) q) ((Hi g).extract q (q+n))
 modify fun st=>Dz (p+k) r st
 return (failedOf (←get)).isNone):=by kernel_rfl
def SE(n w:Nat):StateT SortSt Sem (Option Unit×Unit):=forIn [0:n] ((none,()):Option Unit×Unit) fun _ _=>do
 let g←get
 match (if (VN g).size>1 then(VN g)[(VN g).size-2]? else none)with
 |some (_,_,v)=>
  if v≤w then pure (.done (none,()))
  else do
   let z←mergeAt' ((VN g).size-2)
   if (!z)=true then pure (.done (some (),()))else pure (.yield (none,()))
 | _=>pure (.done (none,()))
def UW(w:Nat)(st:SortSt):SortSt:=setPending st ((VN st).modify ((VN st).size-1) fun(p,l,_)=>(p,l,w))
def Ql(lo n:Nat)(st:SortSt):SortSt:=setPending st ((VN st).push (lo,n,0))
def Qm(N lo n:Nat):StateT SortSt Sem (ForInStep (Option Unit×Nat)):=do
 let g←get
 match (VN g).back? with
 |some (p,l,_)=>do
  let t←SE N (power' N (2*p+l) (2*p+l+l+n) N)
  match t.1 with
  |some r=>pure (.done (some r,lo))
  |none=>do
   modify (UW (power' N (2*p+l) (2*p+l+l+n) N))
   modify (Ql lo n)
   pure (.yield (none,lo+n))
 | _=>do
  modify (Ql lo n)
  pure (.yield (none,lo+n))
def SF(N:Nat):StateT SortSt Sem (Option Unit×Unit):=forIn [0:N] ((none,()):Option Unit×Unit) fun _ _=>do
 let g←get
 if (VN g).size≤1 then pure (.done (none,()))
 else do
  let z←mergeAt' (if (if (VN g).size-2>0 then((VN g)[(VN g).size-2-1]?).map (·.2.1)else none).any (·<((VN g)[(VN g).size-2+1]?.elim 0 (·.2.1)))then(VN g).size-2-1 else(VN g).size-2)
  if (!z)=true then pure (.done (some (),()))else pure (.yield (none,()))
theorem HJ:sortRuns'=(do
 let g←get
 let t←forIn [0:(Hi g).size] ((none,0):Option Unit×Nat) fun _ c=>
  if c.2≥(Hi g).size then pure (.done (none,c.2))
  else do
   let z←countRun' c.2 ((Hi g).size-c.2)
   match z with
   |some n=>
    if n<minRun' (Hi g).size (Hi g).size 0 then do
     liftM (rule "list.sort.binary-insertion")
     let z←binarySort' c.2 (min ((Hi g).size-c.2) (minRun' (Hi g).size (Hi g).size 0)) n
     if (!z)=true then pure (.done (some (),c.2))else Qm (Hi g).size c.2 (min ((Hi g).size-c.2) (minRun' (Hi g).size (Hi g).size 0))
    else Qm (Hi g).size c.2 n
   | _=>pure (.done (some (),c.2))
 match t.1 with
 |some r=>pure r
 |none=>do
  let u←SF (Hi g).size
  match u.1 with
  |some r=>pure r
  |none=>pure ()):=by kernel_rfl
abbrev gg(xs:Array Keyed)(k:Nat):Keyed:=xs.getD k (.none, .none)
theorem oU(xs:Array Keyed)(k:Nat):gg xs k=(xs[k]?).getD (.none, .none):=by unfold gg;rw[Array.getD_eq_getD_getElem?]
theorem k8{xs:Array Keyed}{k:Nat}(h:k<xs.size):xs[k]?=some (gg xs k):=by simp[h]
def Sw(lt:Keyed→Keyed→Bool)(xs:Array Keyed)(a b:Nat):Prop:=∀i j,a≤i→i<j→j<b→lt (gg xs i) (gg xs j)=true
def Dw(lt:Keyed→Keyed→Bool)(xs:Array Keyed)(a b:Nat):Prop:=∀i j,a≤i→i<j→j<b→lt (gg xs j) (gg xs i)=true
theorem Sw.congr{lt:Keyed→Keyed→Bool}{xs ys:Array Keyed}{a b:Nat}(h:Sw lt xs a b)(e:∀t,a≤t→t<b→gg ys t=gg xs t):Sw lt ys a b:=fun i j h1 h2 h3=>by rw[e i h1 D9,e j D9 h3];exact h i j h1 h2 h3
structure SB(X:List Keyed)(κ:SortKind)(st:SortSt):Prop where
 pm:(Hi st).toList.Perm X
 kd:kindOf st=κ
 fl:failedOf st=none
theorem HK{σ:Type}{M:Model}{A:Around}{E:Value→Shared→Prop}{s:Shared}{x:σ}{Q:PUnit→σ→Prop}{st:σ}(h:Q ⟨⟩ x):wpS M A E s (set x:StateT σ Sem PUnit) Q st:=by
 unfold wpS;rw[StateT.run_set];exact W0 ⟨rfl,h⟩
section
variable{prog:Program}{w:World}{A:Around}{E:Value→Shared→Prop}{s:Shared}{X:List Keyed}{κ:SortKind}{lt:Keyed→Keyed→Bool}
theorem SB.size{st:SortSt}(b:SB X κ st):(Hi st).size=X.length:=by have:=b.pm.length_eq;simpa using this
theorem SB.mem{st:SortSt}(b:SB X κ st){k:Nat}(h:k<X.length):gg (Hi st) k∈X:=by
 have:=k8 (xs:=Hi st) (k:=k) (by rw[b.size];exact h);rw[←Array.getElem?_toList]at this;exact b.pm.mem_iff.mp (WI this)
theorem SB.inj{st:SortSt}(C:EV prog w A s X κ lt)(b:SB X κ st){i j:Nat}(hi:i<X.length)(hj:j<X.length)(h:i≠j):gg (Hi st) i≠gg (Hi st) j:=fun e=>by
 have h1:=k8 (xs:=Hi st) (k:=i) (by rw[b.size];exact hi);have h2:=k8 (xs:=Hi st) (k:=j) (by rw[b.size];exact hj);rw[←Array.getElem?_toList]at h1 h2;have nd:(Hi st).toList.Nodup:=b.pm.nodup_iff.mpr C.nd;exact h ((List.getElem?_inj (ZX h1).1 nd).mp (by rw[h1,h2,e]))
theorem SB.set{st:SortSt}{xs:Array Keyed}(b:SB X κ st)(h:xs.Perm (Hi st)):SB X κ (setArr st xs):=⟨(Array.perm_iff_toList_perm.mp h).trans b.pm,b.kd,b.fl⟩
variable(C:EV prog w A s X κ lt)
include C
theorem yR{st:SortSt}{i j:Nat}{Q:Option Bool→SortSt→Prop}(b:SB X κ st)(hi:i<X.length)(hj:j<X.length)(h:Q (some (lt (ZJ i) (ZJ j))) st):wpS (model prog w) A E s (ltAt' i j) Q st:=by
 rw[ltAt'_eq];refine wpS_bind (wpS_get ?_);show wpS _ _ _ _ (do let x←elem' (Hi st) i;let y←elem' (Hi st) j;lt' x y) Q st;exact wpS_bind (eY (k8 (by rw[b.size];exact hi)) (wpS_bind (eY (k8 (by rw[b.size];exact hj)) (C.ask b.kd (b.mem hi) (b.mem hj) h))))
theorem SB.no{st:SortSt}(b:SB X κ st){i j:Nat}(hi:i<X.length)(hj:j<X.length)(h:i≠j)(e:lt (ZJ i) (ZJ j)=false):lt (ZJ j) (ZJ i)=true:=C.no (b.mem hi) (b.mem hj) (b.inj C hi hj h) e
theorem Sw.next{st:SortSt}(b:SB X κ st){lo n:Nat}(h1:1≤n)(hn:lo+n<X.length)(h:Sw lt (Hi st) lo (lo+n))(e:lt (ZJ (lo+n)) (ZJ (lo+n-1))=false):Sw lt (Hi st) lo (lo+(n+1)):=fun i j hi mV hj=>by
 have hl:=b.no C (i:=lo+n) (j:=lo+n-1) hn D9 (by lia) e;by_cases ej:j=lo+n
 ·subst ej;by_cases ei:i=lo+n-1
  ·subst ei;exact hl
  ·exact C.tr _ (b.mem D9) _ (b.mem D9) _ (b.mem hn) (h i (lo+n-1) hi D9 (by lia)) hl
 ·exact h i j hi mV D9
theorem E5{st:SortSt}{lo i n:Nat}{Q:AscSt→SortSt→Prop}(b:SB X κ st)(hn:lo+n≤X.length)(h1:1≤i)(oe:i≤n)(hs:Sw lt (Hi st) lo (lo+i))(q:∀m,i≤m→m≤n→Sw lt (Hi st) lo (lo+m)→(m=n∨lt (ZJ (lo+m)) (ZJ (lo+m-1))=true)→Q (none,m) st):wpS (model prog w) A E s (Qj lo i n) Q st:=by
 unfold Qj;refine wpS_forRange (I:=fun x c aT=>aT=st∧c=(none,x)∧Sw lt (Hi st) lo (lo+x)) ?_ ?_ ⟨rfl,rfl,hs⟩
 ·rintro x c aT lp hx ⟨rfl,rfl,mU⟩;refine wpS_bind (yR C b (by show lo+x<_;lia) (by show lo+x-1<_;lia) ?_);dsimp only;cases e:lt (gg (Hi aT) (lo+x)) (gg (Hi aT) (lo+x-1))with
  |true=>
   rw[if_pos rfl];exact Wv (q x lp D9 mU (.inr e))
  |false=>
   rw[if_neg Mi];exact Wv ⟨rfl,rfl,Sw.next C b (by lia) (by lia) mU e⟩
 ·rintro c aT ⟨rfl,rfl,mU⟩;rw[show max i n=n by lia]at mU⊢;exact q n oe YH mU (.inl rfl)
omit C in
theorem Aj{xs:Array Keyed}{i j:Nat}(hj:j≤xs.size)(k:Nat):gg (mirror xs i j ((j-i)/2)) k=if i≤k∧k<j then gg xs (i+j-1-k)else gg xs k:=by
 rw[oU,getElem?_mirror_all hj];split<;>rw[oU]
theorem Lu{st:SortSt}{lo i n:Nat}{Q:Option Nat→SortSt→Prop}(b:SB X κ st)(hn:lo+n≤X.length)(h1:1≤i)(oe:i≤n)(hs:Dw lt (Hi st) lo (lo+i))(q:∀m aT,SB X κ aT→pendingOf aT=pendingOf st→(∀t,t<lo→gg (Hi aT) t=gg (Hi st) t)→1≤m→m≤n→Sw lt (Hi aT) lo (lo+m)→Q (some m) aT):wpS (model prog w) A E s (Qk lo i n) Q st:=by
 unfold Qk;refine wpS_bind ?_;rw[reverseSlice'_eq];refine wpS_modify ?_;have hsz:lo+i≤(Hi st).size:=by rw[b.size];lia
 have b':SB X κ (setArr st (mirror (Hi st) lo (lo+i) ((lo+i-lo)/2))):=b.set (mirror_perm _ _ _ _);refine wpS_bind (E5 C b' hn h1 oe (fun x y hx yQ hy=>?_) fun m a1 a2 a3 _=>Wv (q m _ b' rfl (fun t ht=>?_) (by lia) a2 a3))
 ·show lt (gg (mirror (Hi st) lo (lo+i) ((lo+i-lo)/2)) x) (gg (mirror (Hi st) lo (lo+i) ((lo+i-lo)/2)) y)=true;rw[Aj hsz,Aj hsz,HB D9,HB D9];exact hs _ _ (by lia) (by lia) (by lia)
 ·show gg (mirror (Hi st) lo (lo+i) ((lo+i-lo)/2)) t=_;rw[Aj hsz,Dt D9]
theorem Lv{st:SortSt}{lo i n:Nat}{Q:DescSt→SortSt→Prop}(b:SB X κ st)(hn:lo+n≤X.length)(h1:1≤i)(oe:i≤n)(hs:Dw lt (Hi st) lo (lo+i))(q:∀m,i≤m→m≤n→Dw lt (Hi st) lo (lo+m)→Q (none,m,0) st):wpS (model prog w) A E s (SA lo i n) Q st:=by
 unfold SA;refine wpS_forRange (I:=fun x c aT=>aT=st∧c=(none,x,0)∧Dw lt (Hi st) lo (lo+x)) ?_ ?_ ⟨rfl,rfl,hs⟩
 ·rintro x c aT lp hx ⟨rfl,rfl,mU⟩;refine wpS_bind (yR C b (by show lo+x<_;lia) (by show lo+x-1<_;lia) ?_);dsimp only;cases e:lt (gg (Hi aT) (lo+x)) (gg (Hi aT) (lo+x-1))with
  |true=>
   rw[if_pos rfl,Dt D9];refine wpS_pure ⟨rfl,rfl,fun y z hy Xh hz=>?_⟩;by_cases ez:z=lo+x
   ·subst ez;by_cases ey:y=lo+x-1
    ·subst ey;exact e
    ·exact C.tr _ (b.mem D9) _ (b.mem D9) _ (b.mem D9) e (mU y (lo+x-1) hy D9 (by lia))
   ·exact mU y z hy Xh D9
  |false=>
   rw[if_neg Mi];have e':=b.no C (i:=lo+x) (j:=lo+x-1) (by lia) (by lia) (by lia) e;refine wpS_bind (yR C b (by lia) (by lia) ?_);rw[e'];dsimp only;rw[if_pos rfl];exact Wv (q x lp D9 mU)
 ·rintro c aT ⟨rfl,rfl,mU⟩;rw[show max i n=n by lia]at mU⊢;exact q n oe YH mU
theorem Ot{st:SortSt}{lo n:Nat}{Q:Option Nat→SortSt→Prop}(b:SB X κ st)(hn:lo+n≤X.length)(h1:1≤n)(q:∀m aT,SB X κ aT→pendingOf aT=pendingOf st→(∀t,t<lo→gg (Hi aT) t=gg (Hi st) t)→1≤m→m≤n→Sw lt (Hi aT) lo (lo+m)→Q (some m) aT):wpS (model prog w) A E s (countRun' lo n) Q st:=by
 rw[Lq];refine wpS_bind (E5 C b hn YH h1 (fun i j a b c=>by lia) fun m a1 a2 a3 a4=>?_);dsimp only;by_cases e:(m==n)=true
 ·rw[HB e];exact Wv (q m st b rfl (fun _ _=>rfl) a1 a2 a3)
 ·rw[Dt e];have e:m≠n:=fun z=>e (Zh z)
  by_cases e2:m>1
  ·rw[HB e2];refine wpS_bind (yR C b (by lia) (by lia) ?_);rw[a3 lo (lo+m-1) (Nat.le_refl _) (by lia) (by lia)];dsimp only;rw[if_pos rfl];exact Wv (q m st b rfl (fun _ _=>rfl) a1 a2 a3)
  ·rw[Dt e2];have:m=1:=by lia
   subst this;unfold SD;refine wpS_bind ε;refine wpS_bind (Lv C b hn D9 (by lia) (fun i j hi mV hj=>?_) fun m c1 c2 c3=>?_)
   ·have hi:i=lo:=by lia
    have hj:j=lo+1:=by lia
    subst hi hj;exact a4.resolve_left e
   ·dsimp only;rw[Dt D9];exact Lu C b hn D9 c2 c3 q
omit C in
theorem aaQ{xs:Array Keyed}{src d:Nat}(hs:src<xs.size)(hd:d≤src)(k:Nat):gg (bubble xs src d) k=if k=src-d then gg xs src else if src-d<k∧k≤src then gg xs (k-1)else gg xs k:=by
 rw[oU,getElem?_bubble hs d hd];by_cases h1:k=src-d
 ·rw[HB h1,HB h1,oU]
 ·rw[Dt h1,Dt h1];by_cases h2:src-d<k∧k≤src
  ·rw[HB h2,HB h2,oU]
  ·rw[Dt h2,Dt h2,oU]
theorem Ou{st:SortSt}{lo n ok:Nat}{Q:Bool→SortSt→Prop}(b:SB X κ st)(hn:lo+n≤X.length)(h1:1≤ok)(bU:ok≤n)(hs:Sw lt (Hi st) lo (lo+ok))(q:∀aT,SB X κ aT→pendingOf aT=pendingOf st→(∀t,t<lo→gg (Hi aT) t=gg (Hi st) t)→Sw lt (Hi aT) lo (lo+n)→Q true aT):wpS (model prog w) A E s (binarySort' lo n ok) Q st:=by
 rw[Lr];refine wpS_bind (wpS_mono (wpS_forRange (I:=fun k c aT=>c=(none,())∧SB X κ aT∧pendingOf aT=pendingOf st∧(∀t,t<lo→gg (Hi aT) t=gg (Hi st) t)∧Sw lt (Hi aT) lo (lo+k)) (Q:=fun c aT=>c=(none,())∧SB X κ aT∧pendingOf aT=pendingOf st∧(∀t,t<lo→gg (Hi aT) t=gg (Hi st) t)∧Sw lt (Hi aT) lo (lo+n)) ?_ ?_ ⟨rfl,b,rfl,fun _ _=>rfl,by rw[show max ok 1=ok by lia];exact hs⟩) ?_)
 ·rintro k c aT Jq hk ⟨rfl,b',hp,hf,mU⟩;unfold UU;refine wpS_bind (wpS_mono (wpS_forRange (I:=fun x c dP=>dP=aT∧∃l r,c=(none,l,r)∧l≤r∧r≤k∧(∀i,i<l→lt (gg (Hi aT) (lo+i)) (gg (Hi aT) (lo+k))=true)∧(∀i,r≤i→i<k→lt (gg (Hi aT) (lo+k)) (gg (Hi aT) (lo+i))=true)∧r-l+x≤k) (Q:=fun c dP=>dP=aT∧∃l r,c=(none,l,r)∧l≤k∧(∀i,i<l→lt (gg (Hi aT) (lo+i)) (gg (Hi aT) (lo+k))=true)∧(∀i,l≤i→i<k→lt (gg (Hi aT) (lo+k)) (gg (Hi aT) (lo+i))=true)) ?_ ?_ ⟨rfl,0,k,rfl,by lia,by lia,fun i hi=>by lia,fun i h1 h2=>by lia,by lia⟩) ?_)
  ·rintro x c dP _ hx ⟨rfl,l,r,rfl,a1,a2,a3,a4,a5⟩;dsimp only;by_cases UX:l≥r
   ·rw[HB UX];exact Wv ⟨rfl,l,r,rfl,by lia,a3,fun i h1 h2=>a4 i D9 h2⟩
   ·rw[Dt UX];refine wpS_bind (yR C b' D9 (by lia) ?_);dsimp only;cases e:lt (gg (Hi dP) (lo+k)) (gg (Hi dP) (lo+(l+r)/2))with
    |true=>
     rw[if_pos rfl];refine wpS_pure ⟨rfl,l,(l+r)/2,rfl,by lia,by lia,a3,fun i h1 h2=>?_,by lia⟩;by_cases ei:i=(l+r)/2
     ·subst ei;exact e
     ·exact C.tr _ (b'.mem D9) _ (b'.mem D9) _ (b'.mem D9) e (mU (lo+(l+r)/2) (lo+i) (by lia) (by lia) (by lia))
    |false=>
     rw[if_neg Mi];have e':=b'.no C (i:=lo+k) (j:=lo+(l+r)/2) (by lia) (by lia) (by lia) e;refine wpS_pure ⟨rfl,(l+r)/2+1,r,rfl,by lia,a2,fun i h1=>?_,a4,by lia⟩;by_cases ei:i=(l+r)/2
     ·subst ei;exact e'
     ·exact C.tr _ (b'.mem D9) _ (b'.mem D9) _ (b'.mem D9) (mU (lo+i) (lo+(l+r)/2) (by lia) (by lia) (by lia)) e'
  ·rintro c dP ⟨rfl,l,r,rfl,a1,a2,a3,a4,a5⟩;exact⟨rfl,l,r,rfl,by lia,a3,fun i h1 h2=>a4 i D9 h2⟩
  rintro c dP ⟨rfl,l,r,rfl,a1,a2,a3⟩;dsimp only;refine wpS_bind ?_;rw[moveDown'_eq];refine wpS_modify (Wv ?_);have hsz:lo+k<(Hi dP).size:=by rw[b'.size];lia
  have gb:=fun t=>aaQ (xs:=Hi dP) hsz (d:=lo+k-(lo+l)) (by lia) t
  have es:lo+k-(lo+k-(lo+l))=lo+l:=by lia
  rw[es]at gb;refine⟨rfl,b'.set (bubble_perm _ _ _),hp,fun t ht=>?_,fun i j hi mV hj=>?_⟩
  ·show gg (bubble (Hi dP) (lo+k) (lo+k-(lo+l))) t=_;rw[gb,Dt D9,Dt D9];exact hf t ht
  ·show lt (gg (bubble (Hi dP) (lo+k) (lo+k-(lo+l))) i) (gg (bubble (Hi dP) (lo+k) (lo+k-(lo+l))) j)=true;rw[gb,gb];have Xi:∀t,lo≤t→t<lo+l→lt (gg (Hi dP) t) (gg (Hi dP) (lo+k))=true:=fun t h1 h2=>by have:=a2 (t-lo) (by lia);rw[show lo+(t-lo)=t by lia]at this;exact this
   have Xj:∀t,lo+l≤t→t<lo+k→lt (gg (Hi dP) (lo+k)) (gg (Hi dP) t)=true:=fun t h1 h2=>by have:=a3 (t-lo) (by lia) (by lia);rw[show lo+(t-lo)=t by lia]at this;exact this
   by_cases e1:i=lo+l
   ·rw[HB e1,Dt D9,HB D9];exact Xj _ (by lia) (by lia)
   ·rw[Dt e1];by_cases e2:lo+l<i∧i≤lo+k
    ·rw[HB e2,Dt D9,HB D9];exact mU _ _ (by lia) (by lia) (by lia)
    ·rw[Dt e2];by_cases e3:j=lo+l
     ·rw[HB e3];exact Xi _ (by lia) (by lia)
     ·rw[Dt e3];by_cases e4:lo+l<j∧j≤lo+k
      ·rw[HB e4];exact mU _ _ (by lia) (by lia) (by lia)
      ·rw[Dt e4];exact mU _ _ (by lia) (by lia) (by lia)
 ·rintro c aT ⟨rfl,b',hp,hf,mU⟩;rw[show max (max ok 1) n=n by lia]at mU;exact⟨rfl,b',hp,hf,mU⟩
 ·rintro c aT ⟨rfl,b',hp,hf,mU⟩;exact Wv (q aT b' hp hf mU)
end
theorem Lx(ys:List Keyed)(j:Nat):∀(k:Nat)(xs:Array Keyed),j+k+ys.length≤xs.size→∀t:Nat,((ys.zipIdx k).foldl (fun c q=>c.setIfInBounds (j+q.2) q.1) xs)[t]?=if j+k≤t∧t<j+k+ys.length then ys[t-(j+k)]? else xs[t]?:=by
 induction ys with
 |nil=>
  intro k xs h t;rw[Dt (fun z=>by have z1:=z.1;have z2:=z.2;simp only[List.length_nil]at z2;lia)];rfl
 |cons y ys ih=>
  intro k xs h t;rw[List.zipIdx_cons,List.foldl_cons,ih (k+1) _ (by simp at h⊢;lia) t];simp only[List.length_cons]at h⊢;by_cases h1:j+(k+1)≤t∧t<j+(k+1)+ys.length
  ·rw[HB h1,HB D9,show t-(j+k)=(t-(j+(k+1)))+1 by lia];rfl
  ·rw[Dt h1,Array.getElem?_setIfInBounds];by_cases h2:j+k=t
   ·subst h2;rw[if_pos rfl,HB D9,HB D9];simp
   ·rw[Dt h2,Dt D9]
theorem E6(ys:List Keyed)(j:Nat)(xs:Array Keyed)(h:j+ys.length≤xs.size):(ys.zipIdx.foldl (fun c q=>c.setIfInBounds (j+q.2) q.1) xs).toList=xs.toList.take j++ys++xs.toList.drop (j+ys.length):=by
 apply List.ext_getElem?;intro t;rw[Array.getElem?_toList,Lx ys j 0 xs D9 t,Nat.add_zero];by_cases h1:t<j
 ·rw[Dt D9,List.append_assoc,ZA Zc,List.getElem?_take,HB h1,Array.getElem?_toList]
 ·by_cases h2:t<j+ys.length
  ·rw[HB D9,List.append_assoc,ZF Zc,ZA Zc]
   congr 1
   simp
   lia
  ·rw[Dt D9,ZF Zc,List.getElem?_drop,Array.getElem?_toList]
   congr 1
   simp
   lia
section
variable{prog:Program}{w:World}{A:Around}{E:Value→Shared→Prop}{s:Shared}{X:List Keyed}{κ:SortKind}{lt:Keyed→Keyed→Bool}
theorem Sw.pw{xs:Array Keyed}{p m:Nat}(h:Sw lt xs p (p+m)):Pw lt ((xs.toList.drop p).take m):=by
 refine List.pairwise_iff_getElem.mpr ?_;intro i j hi hj mV;have yS:j<m∧p+j<xs.size:=by simp at hj;lia
 have e1:((xs.toList.drop p).take m)[i]=gg xs (p+i):=by
  have:((xs.toList.drop p).take m)[i]?=some (gg xs (p+i)):=by rw[List.getElem?_take,HB D9,List.getElem?_drop,Array.getElem?_toList];exact k8 D9
  exact(ZX this).2
 have e2:((xs.toList.drop p).take m)[j]=gg xs (p+j):=by
  have:((xs.toList.drop p).take m)[j]?=some (gg xs (p+j)):=by rw[List.getElem?_take,HB D9,List.getElem?_drop,Array.getElem?_toList];exact k8 D9
  exact(ZX this).2
 rw[e1,e2];exact h _ _ (by lia) (by lia) (by lia)
theorem E7{xs:Array Keyed}{p m t:Nat}(h:t<m)(hs:p+m≤xs.size):((xs.toList.drop p).take m)[t]?=some (gg xs (p+t)):=by
 rw[List.getElem?_take,HB h,List.getElem?_drop,Array.getElem?_toList];exact k8 D9
variable(C:EV prog w A s X κ lt)
include C
theorem Ov{st:SortSt}{i p m v n u:Nat}{Q:Bool→SortSt→Prop}(b:SB X κ st)(e1:(VN st)[i]?=some (p,m,v))(e2:(VN st)[i+1]?=some (p+m,n,u))(hm:1≤m)(hn:1≤n)(hX:p+m+n≤X.length)(s1:Sw lt (Hi st) p (p+m))(s2:Sw lt (Hi st) (p+m) (p+m+n))
  (q:∀aT,SB X κ aT→pendingOf aT=((VN st).setIfInBounds i (p,m+n,v)).eraseIdxIfInBounds (i+1)→(∀t,t<p∨p+m+n≤t→gg (Hi aT) t=gg (Hi st) t)→Sw lt (Hi aT) p (p+m+n)→Q true aT):wpS (model prog w) A E s (mergeAt' i) Q st:=by
 rw[Ls];refine wpS_bind (wpS_get ?_);rw[e1,e2];dsimp only;refine wpS_bind (HK ?_);have hsz:=b.size;refine wpS_bind (eY (k8 (xs:=Hi st) (k:=p+m) (by lia)) ?_);have mem:∀t,t<X.length→gg (Hi st) t∈X:=fun t h=>b.mem h
 generalize Ly:setPending st (((VN st).setIfInBounds i (p,m+n,v)).eraseIdxIfInBounds (i+1))=Ai;have Ak:arrOf Ai=arrOf st:=by rw[←Ly]
 have b1:SB X κ Ai:=by rw[←Ly];exact⟨b.pm,b.kd,b.fl⟩
 have E8:pendingOf Ai=((VN st).setIfInBounds i (p,m+n,v)).eraseIdxIfInBounds (i+1):=by rw[←Ly]
 refine wpS_bind (qA C (fun t=>ZJ (p+t)) b1.kd (mem _ (by lia)) (fun t ht=>⟨k8 D9,mem _ (by lia)⟩) (fun x y h1 h2=>s1 _ _ (by lia) (by lia) (by lia)) (by lia) fun k hk g1 g2=>?_);dsimp only;have Ow:∀t,t<k→lt (ZJ (p+t)) (ZJ (p+m))=true:=fun t ht=>by
  have:=g1 t ht;simp only[ll,Bool.false_eq_true,if_false,Bool.not_eq_true']at this;exact b.no C (by lia) (by lia) (by lia) this
 have UY:∀t,k≤t→t<m→lt (ZJ (p+m)) (ZJ (p+t))=true:=fun t h1 h2=>by
  have:=g2 t h1 h2;simp only[ll,Bool.false_eq_true,if_false,Bool.not_eq_false']at this;exact this
 have tr:=fun{x y z:Nat}(hx:x<X.length)(hy:y<X.length)(hz:z<X.length)=>C.tr _ (mem x hx) _ (mem y hy) _ (mem z hz)
 by_cases ek:(m-k==0)=true
 ·rw[HB ek];have:k=m:=by have:=beq_iff_eq.mp ek;lia
  subst this;refine wpS_pure (q Ai b1 E8 (fun _ _=>by rw[Ak]) ?_);rw[Ak];intro x y hx yQ hy;by_cases h1:y<p+k
  ·exact s1 x y hx yQ h1
  ·by_cases h2:p+k≤x
   ·exact s2 x y h2 yQ hy
   ·have h3:=Ow (x-p) (by lia);rw[show p+(x-p)=x by lia]at h3;by_cases h4:y=p+k
    ·rw[h4];exact h3
    ·exact tr D9 (by lia) (by lia) h3 (s2 (p+k) y D9 (by lia) hy)
 rw[Dt ek];have ek:k<m:=by
  have:m-k≠0:=fun z=>ek (Zh z)
  lia
 refine wpS_bind (eY (k8 (xs:=Hi st) (k:=p+k+(m-k)-1) (by lia)) ?_);rw[show p+k+(m-k)-1=p+m-1 by lia];refine wpS_bind (qA C (fun t=>ZJ (p+m+t)) b1.kd (mem _ (by lia)) (fun t ht=>⟨k8 D9,mem _ (by lia)⟩) (fun x y h1 h2=>s2 _ _ (by lia) (by lia) (by lia)) (by lia) fun l hl g3 g4=>?_);dsimp only;have SG:∀t,t<l→lt (ZJ (p+m+t)) (ZJ (p+m-1))=true:=fun t ht=>by
  have:=g3 t ht;simp only[ll,if_true]at this;exact this
 have UZ:∀t,l≤t→t<n→lt (ZJ (p+m-1)) (ZJ (p+m+t))=true:=fun t h1 h2=>by
  have:=g4 t h1 h2;simp only[ll,if_true]at this;exact b.no C (by lia) (by lia) (by lia) this
 have Gu:0<l:=by
  rcases Nat.lt_or_ge 0 l with h|h
  ·exact h
  ·have h1:=UZ 0 (by lia) (by lia);have h2:=UY (m-1) (by lia) (by lia);rw[show p+(m-1)=p+m-1 by lia]at h2;rw[Nat.add_zero]at h1;have:=C.as _ (mem _ (by lia)) _ (mem _ (by lia)) h1;rw[h2]at this;cases this
 rw[Dt Zc];have ex:((Hi st).extract (p+k) (p+m)).toList=((Hi st).toList.drop (p+k)).take (m-k):=by
  simp[Array.toList_extract,List.extract_eq_take_drop]
  congr 1
  lia
 have ey:((Hi st).extract (p+m) (p+m+l)).toList=((Hi st).toList.drop (p+m)).take l:=by
  simp[Array.toList_extract,List.extract_eq_take_drop]
 have U0:∀t,t<m-k→(((Hi st).toList.drop (p+k)).take (m-k))[t]?=some (ZJ (p+k+t)):=fun t ht=>E7 ht D9
 have U1:∀t,t<l→(((Hi st).toList.drop (p+m)).take l)[t]?=some (ZJ (p+m+t)):=fun t ht=>E7 ht D9
 have lx:(((Hi st).toList.drop (p+k)).take (m-k)).length=m-k:=by simp;lia
 have ly:(((Hi st).toList.drop (p+m)).take l).length=l:=by simp;lia
 have Qn:∀x∈((Hi st).toList.drop (p+k)).take (m-k),∃t,t<m-k∧x=gg (Hi st) (p+k+t):=fun x hx=>by
  obtain⟨t,ht⟩:=List.mem_iff_getElem?.mp hx;have hZ:=(ZX ht).1;rw[lx]at hZ;rw[U0 t hZ]at ht;exact⟨t,hZ,(WK ht).symm⟩
 have Qo:∀x∈((Hi st).toList.drop (p+m)).take l,∃t,t<l∧x=gg (Hi st) (p+m+t):=fun x hx=>by
  obtain⟨t,ht⟩:=List.mem_iff_getElem?.mp hx;have hZ:=(ZX ht).1;rw[ly]at hZ;rw[U1 t hZ]at ht;exact⟨t,hZ,(WK ht).symm⟩
 have MM:MC X lt ((Hi st).extract (p+k) (p+m)).toList ((Hi st).extract (p+m) (p+m+l)).toList:=by
  rw[ex,ey];refine⟨Sw.pw fun x y h1 h2 h3=>s1 x y D9 h2 D9,Sw.pw fun x y h1 h2 h3=>s2 x y h1 h2 D9,fun x hx=>?_,fun x hx=>?_,fun x hx y hy=>?_,fun x hx y hy=>?_,fun y hy x hx=>?_⟩
  ·obtain⟨t,ht,rfl⟩:=Qn x hx;exact mem _ (by lia)
  ·obtain⟨t,ht,rfl⟩:=Qo x hx;exact mem _ (by lia)
  ·obtain⟨t,ht,rfl⟩:=Qn x hx;obtain⟨u,hu,rfl⟩:=Qo y hy;exact b.inj C (by lia) (by lia) (by lia)
  ·obtain⟨t,ht,rfl⟩:=Qn x hx;rw[U1 0 Gu]at hy;cases hy;have:=UY (k+t) (by lia) (by lia);rw[←Nat.add_assoc]at this;exact this
  ·obtain⟨t,ht,rfl⟩:=Qo y hy;rw[lx,U0 _ (by lia)]at hx;cases hx;rw[show p+k+(m-k-1)=p+m-1 by lia];exact SG t ht
 have fin:∀r dP,Eg Ai dP→MG lt ((Hi st).extract (p+k) (p+m)).toList ((Hi st).extract (p+m) (p+m+l)).toList r.toList→wpS (model prog w) A E s (do
   modify fun st=>Dz (p+k) r st
   return (failedOf (←get)).isNone) Q dP:=fun r dP eg mg=>by
  refine wpS_bind (wpS_modify (wpS_bind (wpS_get (Wv ?_))));have Mz:arrOf dP=arrOf st:=eg.2.1.trans Ak;have Qp:failedOf dP=none:=eg.2.2.2.trans b1.fl;rw[ex,ey]at mg;have MA:r.toList.length=m-k+l:=by have:=mg.1.length_eq;rw[List.length_append,lx,ly]at this;exact this
  have el:(Hi (Dz (p+k) r dP)).toList=(Hi st).toList.take (p+k)++r.toList++(Hi st).toList.drop (p+m+l):=by
   show(r.toList.zipIdx.foldl (fun c q=>c.setIfInBounds (p+k+q.2) q.1) (Hi dP)).toList=_;rw[E6 _ _ _ (by rw[Mz,MA];lia),Mz,MA,show p+k+(m-k+l)=p+m+l by lia]
  have Xk:(Hi st).toList=(Hi st).toList.take (p+k)++(((Hi st).toList.drop (p+k)).take (m-k)++((Hi st).toList.drop (p+m)).take l)++(Hi st).toList.drop (p+m+l):=by
   have h1:=oT (Hi st).toList (p+k) (m-k);have h2:=oT (Hi st).toList (p+m) l;rw[show p+k+(m-k)=p+m by lia]at h1
   conv=>lhs;rw[←List.take_append_drop (p+k) (Hi st).toList,h1,h2]
   simp only[List.append_assoc]
  have SH:∀t,gg (Hi (Dz (p+k) r dP)) t=((Hi (Dz (p+k) r dP)).toList[t]?).getD (.none, .none):=fun t=>by rw[oU,Array.getElem?_toList]
  have g0:∀t,gg (Hi st) t=((Hi st).toList[t]?).getD (.none, .none):=fun t=>by rw[oU,Array.getElem?_toList]
  have Lz:∀t,t<p+k→gg (Hi (Dz (p+k) r dP)) t=gg (Hi st) t:=fun t ht=>by
   rw[SH,g0,el,List.append_assoc,ZA Zc,List.getElem?_take,HB ht]
  have E9:∀t,p+m+l≤t→gg (Hi (Dz (p+k) r dP)) t=gg (Hi st) t:=fun t ht=>by
   have hZ:((Hi st).toList.take (p+k)++r.toList).length=p+m+l:=by
    rw[List.length_append,MA,List.length_take,Array.length_toList]
    lia
   rw[SH,g0,el,ZF D9,List.getElem?_drop,hZ]
   congr 2
   lia
  have SI:∀t,p+k≤t→t<p+m+l→r.toList[t-(p+k)]?=some (gg (Hi (Dz (p+k) r dP)) t):=fun t h1 h2=>by
   rw[SH,el,List.append_assoc,ZF Zc,ZA (by rw[List.length_take,Array.length_toList];lia)];rw[show(List.take (p+k) (Hi st).toList).length=p+k by simp;lia];rw[ZQ D9];rfl
  have cont:∀t,p+k≤t→t<p+m+l→∃u,p+k≤u∧u<p+m+l∧gg (Hi (Dz (p+k) r dP)) t=gg (Hi st) u:=fun t h1 h2=>by
   have:=mg.1.mem_iff.mp (WI (SI t h1 h2));rcases List.mem_append.mp this with z|z
   ·obtain⟨u,hu,e⟩:=Qn _ z;exact⟨p+k+u,by lia,by lia,e⟩
   ·obtain⟨u,hu,e⟩:=Qo _ z;exact⟨p+m+u,by lia,by lia,e⟩
  have hb:SB X κ (Dz (p+k) r dP):=by
   refine⟨?_,eg.1.trans b1.kd,Qp⟩;rw[el];refine List.Perm.trans ?_ b.pm
   conv=>rhs;rw[Xk]
   exact(List.Perm.append_left _ mg.1).append_right _
  have Ni:(failedOf (Dz (p+k) r dP)).isNone=true:=by rw[show failedOf (Dz (p+k) r dP)=failedOf dP from rfl,Qp];rfl
  rw[Ni];refine q _ hb (eg.2.2.1.trans E8) (fun t ht=>?_) fun x y hx yQ hy=>?_
  ·rcases ht with ht|ht
   ·exact Lz t (by lia)
   ·exact E9 t (by lia)
  ·
   have A1:∀t u,p≤t→t<p+k→p+k≤u→u<p+m+n→lt (ZJ t) (ZJ u)=true:=fun t u h1 h2 h3 h4=>by
    by_cases h5:u<p+m
    ·exact s1 t u h1 D9 h5
    ·have h6:=Ow (t-p) (by lia);rw[show p+(t-p)=t by lia]at h6;by_cases h7:u=p+m
     ·rw[h7];exact h6
     ·exact tr D9 (by lia) (by lia) h6 (s2 (p+m) u D9 (by lia) h4)
   have A2:∀t u,p+k≤t→t<p+m+l→p+m+l≤u→u<p+m+n→lt (ZJ t) (ZJ u)=true:=fun t u h1 h2 h3 h4=>by
    by_cases h5:p+m≤t
    ·exact s2 t u h5 D9 h4
    ·have h6:=UZ (u-(p+m)) (by lia) (by lia);rw[show p+m+(u-(p+m))=u by lia]at h6;by_cases h7:t=p+m-1
     ·rw[h7];exact h6
     ·exact tr D9 (by lia) (by lia) (s1 t (p+m-1) (by lia) (by lia) (by lia)) h6
   by_cases h1:x<p+k
   ·rw[Lz x h1];by_cases h2:y<p+k
    ·rw[Lz y h2];exact s1 x y hx yQ D9
    ·by_cases h3:y<p+m+l
     ·obtain⟨u,u1,u2,u3⟩:=cont y D9 h3;rw[u3];exact A1 x u hx h1 u1 D9
     ·rw[E9 y D9];exact A1 x y hx h1 D9 hy
   ·by_cases h3:x<p+m+l
    ·by_cases h4:y<p+m+l
     ·exact mg.2.at (i:=x-(p+k)) (j:=y-(p+k)) (by lia) (SI x (by lia) h3) (SI y D9 h4)
     ·rw[E9 y D9];obtain⟨u,u1,u2,u3⟩:=cont x (by lia) h3;rw[u3];exact A2 u y u1 u2 D9 hy
    ·rw[E9 x (by lia),E9 y D9];exact s2 x y D9 yQ hy
 have sx:0<((Hi st).extract (p+k) (p+m)).size:=by simp;lia
 have sy:0<((Hi st).extract (p+m) (p+m+l)).size:=by simp;lia
 by_cases U2:m-k≤l
 ·rw[HB U2];exact wpS_bind (Lj C MM b1.kd sx sy fin)
 ·rw[Dt U2];exact wpS_bind (Lp C MM b1.kd sx sy fin)
end
abbrev Rn:=Nat×Nat×Nat
def Ch:List Rn→Nat→Nat→Prop
 |[],s,e=>s=e
 |q::r,s,e=>q.1=s∧1≤q.2.1∧Ch r (s+q.2.1) e
theorem Ch.all:∀{l:List Rn}{s e:Nat},Ch l s e→s+l.length≤e∧∀q∈l,s≤q.1∧q.1+q.2.1≤e
 |[],s,e,h=>⟨by have:s=e:=h;simp;lia,fun q hq=>by cases hq⟩
 |q::r,s,e,⟨h1,h2,h3⟩=>by
  obtain⟨a1,a2⟩:=Ch.all h3;refine⟨by simp;lia,fun x hx=>?_⟩;rcases List.mem_cons.mp hx with rfl|hx
  ·lia
  ·have:=a2 x hx;lia
theorem Ch.split:∀{l r:List Rn}{s e:Nat},Ch (l++r) s e↔∃m,Ch l s m∧Ch r m e
 |[],r,s,e=>⟨fun h=>⟨s,rfl,h⟩,fun⟨m,h1,h2⟩=>by have:s=m:=h1;rw[this];exact h2⟩
 |q::l,r,s,e=>by
  constructor
  ·rintro⟨h1,h2,h3⟩;obtain⟨m,a1,a2⟩:=Ch.split.mp h3;exact⟨m,⟨h1,h2,a1⟩,a2⟩
  ·rintro⟨m,⟨h1,h2,a1⟩,a2⟩;exact⟨h1,h2,Ch.split.mpr ⟨m,a1,a2⟩⟩
theorem Ch.mod{f:Rn→Rn}(hf:∀q,(f q).1=q.1∧(f q).2.1=q.2.1):∀{l:List Rn}{j s e:Nat},Ch l s e→Ch (l.modify j f) s e
 |[],j,s,e,h=>by simpa using h
 |q::r,0,s,e,h=>by
  rw[List.modify_zero_cons];obtain⟨h1,h2,h3⟩:=h;refine⟨by rw[(hf q).1];exact h1,by rw[(hf q).2];exact h2,by rw[(hf q).2];exact h3⟩
 |q::r,j+1,s,e,h=>by
  rw[List.modify_succ_cons];exact⟨h.1,h.2.1,Ch.mod hf h.2.2⟩
theorem BD{f:Rn→Rn}:∀{l:List Rn}{j:Nat}{q:Rn},q∈l.modify j f→q∈l∨∃x∈l,q=f x
 |[],j,q,h=>by simp at h
 |x::r,0,q,h=>by
  rw[List.modify_zero_cons]at h;rcases List.mem_cons.mp h with h|h
  ·exact .inr ⟨x,IM,h⟩
  ·exact .inl (ZL h)
 |x::r,j+1,q,h=>by
  rw[List.modify_succ_cons]at h;rcases List.mem_cons.mp h with h|h
  ·exact .inl (by rw[h];simp)
  ·rcases BD h with h|⟨y,h1,h2⟩
   ·exact .inl (ZL h)
   ·exact .inr ⟨y,ZL h1,h2⟩
structure RI(X:List Keyed)(κ:SortKind)(lt:Keyed→Keyed→Bool)(st:SortSt)(lo n:Nat):Prop where
 b:SB X κ st
 ch:Ch (VN st).toList 0 lo
 sw:∀q∈(VN st).toList,Sw lt (Hi st) q.1 (q.1+q.2.1)
 tl:Sw lt (Hi st) lo (lo+n)
section
variable{prog:Program}{w:World}{A:Around}{E:Value→Shared→Prop}{s:Shared}{X:List Keyed}{κ:SortKind}{lt:Keyed→Keyed→Bool}(C:EV prog w A s X κ lt)
include C
theorem Js{st:SortSt}{lo n i:Nat}{Q:Bool→SortSt→Prop}(r:RI X κ lt st lo n)(Mr:lo≤X.length)(hi:i+1<(VN st).size)(q:∀aT,RI X κ lt aT lo n→(VN aT).size+1=(VN st).size→Q true aT):wpS (model prog w) A E s (mergeAt' i) Q st:=by
 have hl:(VN st).toList.length=(VN st).size:=IM;obtain⟨P1,x,y,P2,e,el⟩:∃P1 x y P2,(VN st).toList=P1++x::y::P2∧P1.length=i:=by
  refine⟨(VN st).toList.take i,(VN st).toList[i],(VN st).toList[i+1],(VN st).toList.drop (i+2),?_,by simp;lia⟩
  conv=>lhs;rw[←List.take_append_drop i (VN st).toList]
  rw[List.drop_eq_getElem_cons D9,List.drop_eq_getElem_cons D9]
 obtain⟨p,m,v⟩:=x;obtain⟨p2,k,u⟩:=y;have ch:=r.ch;rw[e]at ch;obtain⟨mid,c1,c2⟩:=Ch.split.mp ch;obtain⟨d1,d2,d3,d4,d5⟩:=c2;dsimp only at d1 d2 d3 d4 d5;subst d1 d3;have a1:=c1.all;have a2:=d5.all;have i1:(VN st)[i]?=some (p,m,v):=by rw[←Array.getElem?_toList,e,ZF D9,el];simp
 have i2:(VN st)[i+1]?=some (p+m,k,u):=by rw[←Array.getElem?_toList,e,ZF D9,el];simp
 have w1:=r.sw (p,m,v) (by rw[e];simp);have w2:=r.sw (p+m,k,u) (by rw[e];simp);refine Ov C r.b i1 i2 d2 d4 D9 w1 w2 fun aT b' hp LA RZ=>?_
 have ep:(VN aT).toList=P1++(p,m+k,v)::P2:=by
  rw[hp];simp only[Array.toList_eraseIdxIfInBounds,Array.toList_setIfInBounds];rw[e,List.set_append_right _ _ (by lia),el,Nat.sub_self,List.set_cons_zero,List.eraseIdx_append_of_length_le D9,el,show i+1-i=1 by lia];rfl
 refine q aT ⟨b',?_,fun z hz=>?_,r.tl.congr fun t h1 h2=>LA t (.inr D9)⟩ ?_
 ·rw[ep];refine Ch.split.mpr ⟨p,c1,rfl,by show 1≤m+k;lia,?_⟩;show Ch P2 (p+(m+k)) lo;rw[←Nat.add_assoc];exact d5
 ·rw[ep]at hz;rcases List.mem_append.mp hz with hz|hz
  ·have h1:=a1.2 z hz;exact(r.sw z (by rw[e];simp[hz])).congr fun t _ h2=>LA t (.inl D9)
  ·rcases List.mem_cons.mp hz with rfl|hz
   ·show Sw lt (Hi aT) p (p+(m+k));rw[←Nat.add_assoc];exact RZ
   ·have h1:=a2.2 z hz;exact(r.sw z (by rw[e];simp[hz])).congr fun t h2 _=>LA t (.inr D9)
 ·have h1:=congrArg List.length ep;have h2:=congrArg List.length e;simp at h1 h2
  lia
theorem LB{st:SortSt}{lo n N w':Nat}{Q:Option Unit×Unit→SortSt→Prop}(r:RI X κ lt st lo n)(Mr:lo≤X.length)(q:∀aT,RI X κ lt aT lo n→Q (none,()) aT):wpS (model prog w) A E s (SE N w') Q st:=by
 unfold SE;refine wpS_forRange (I:=fun _ c aT=>c=(none,())∧RI X κ lt aT lo n) ?_ (fun c aT h=>by rw[h.1];exact q aT h.2) ⟨rfl,r⟩;rintro x c aT _ _ ⟨rfl,r'⟩;refine wpS_bind (wpS_get ?_);by_cases hs:(VN aT).size>1
 ·rw[HB hs];have e:(VN aT)[(VN aT).size-2]?=some (VN aT)[(VN aT).size-2]:=IM;rw[e];generalize (VN aT)[(VN aT).size-2]=z;obtain⟨z1,z2,z3⟩:=z;dsimp only;split
  ·exact Wv (q aT r')
  ·refine wpS_bind (Js C r' Mr D9 fun dP r2 _=>?_);rw[if_neg Mi];exact Wv ⟨rfl,r2⟩
 ·rw[Dt hs];exact Wv (q aT r')
theorem E_{st:SortSt}{lo n N:Nat}{Q:ForInStep (Option Unit×Nat)→SortSt→Prop}(r:RI X κ lt st lo n)(h1:1≤n)(Mr:lo+n≤X.length)(q:∀aT,RI X κ lt aT (lo+n) 0→Q (.yield (none,lo+n)) aT):wpS (model prog w) A E s (Qm N lo n) Q st:=by
 have push:∀aT,RI X κ lt aT lo n→RI X κ lt (Ql lo n aT) (lo+n) 0:=fun aT r'=>by
  have ep:(VN (Ql lo n aT)).toList=(VN aT).toList++[(lo,n,0)]:=by
   show((VN aT).push (lo,n,0)).toList=_;simp
  refine⟨⟨r'.b.pm,r'.b.kd,r'.b.fl⟩,?_,fun z hz=>?_,fun i j a b c=>by lia⟩
  ·rw[ep];exact Ch.split.mpr ⟨lo,r'.ch,rfl,h1,rfl⟩
  ·rw[ep]at hz;rcases List.mem_append.mp hz with hz|hz
   ·exact r'.sw z hz
   ·have:z=(lo,n,0):=by simpa using hz
    subst this;exact r'.tl
 unfold Qm;refine wpS_bind (wpS_get ?_);cases e:(VN st).back? with
 |none=>exact wpS_bind (wpS_modify (Wv (q _ (push _ r))))
 |some z=>
  obtain⟨z1,z2,z3⟩:=z;dsimp only;refine wpS_bind (LB C r D9 fun dP r2=>?_);dsimp only;refine wpS_bind (wpS_modify (wpS_bind (wpS_modify (Wv (q _ (push _ ?_))))));have ep:(VN (UW (power' N (2*z1+z2) (2*z1+z2+z2+n) N) dP)).toList=(VN dP).toList.modify ((VN dP).size-1) fun(p,l,_)=>(p,l,power' N (2*z1+z2) (2*z1+z2+z2+n) N):=by
   show((VN dP).modify _ _).toList=_;simp
  refine⟨⟨r2.b.pm,r2.b.kd,r2.b.fl⟩,?_,fun z hz=>?_,r2.tl⟩
  ·rw[ep];refine Ch.mod ?_ r2.ch;exact fun _=>⟨rfl,rfl⟩
  ·rw[ep]at hz;rcases BD hz with hz|⟨x,h1,h2⟩
   ·exact r2.sw z hz
   ·rw[h2];exact r2.sw x h1
theorem LC{st:SortSt}{N:Nat}{Q:Option Unit×Unit→SortSt→Prop}(hN:N=X.length)(h0:0<N)(r:RI X κ lt st N 0)(q:∀aT,SB X κ aT→Sw lt (Hi aT) 0 N→Q (none,()) aT):wpS (model prog w) A E s (SF N) Q st:=by
 have one:∀aT,RI X κ lt aT N 0→(VN aT).size≤1→Q (none,()) aT:=fun aT r' hs=>by
  have ch:=r'.ch;have sw:=r'.sw;cases e:(VN aT).toList with
  |nil=>rw[e]at ch;have:0=N:=ch;lia
  |cons x l=>
   have hl:l=[]:=by
    have:=congrArg List.length e;simp at this;exact List.length_eq_zero_iff.mp D9
   subst hl;rw[e]at ch sw;obtain⟨c1,c2,c3⟩:=ch;have c3:0+x.2.1=N:=c3;have:=sw x (IM);rw[c1,c3]at this;exact q aT r'.b this
 unfold SF;refine wpS_forRange (I:=fun x c aT=>c=(none,())∧RI X κ lt aT N 0∧((VN aT).size+x≤N∨(VN aT).size≤1)) ?_ ?_ ⟨rfl,r, .inl ?_⟩
 ·rintro x c aT _ hx ⟨rfl,r',hs⟩;refine wpS_bind (wpS_get ?_);by_cases h1:(VN aT).size≤1
  ·rw[HB h1];exact Wv (one aT r' h1)
  ·rw[Dt h1];refine wpS_bind (Js C r' D9 ?_ fun dP r2 Kl=>?_)
   ·have key:∀c:Bool,(if c=true then(VN aT).size-2-1 else(VN aT).size-2)+1<(VN aT).size:=fun c=>by cases c<;>simp<;>lia
    exact key _
   ·rw[if_neg Mi];exact Wv ⟨rfl,r2,by lia⟩
 ·rintro c aT ⟨rfl,r',hs⟩;exact one aT r' (by rcases hs with hs|hs<;>lia)
 ·have:=r.ch.all.1;simp at this
  lia
theorem LD{st:SortSt}{Q:Unit→SortSt→Prop}(h0:0<X.length)(b:SB X κ st)(hp:pendingOf st=#[])(q:∀aT,SB X κ aT→Sw lt (Hi aT) 0 X.length→Q () aT):wpS (model prog w) A E s sortRuns' Q st:=by
 rw[HJ];refine wpS_bind (wpS_get ?_);rw[b.size];refine wpS_bind (wpS_mono (wpS_forRange (I:=fun x c aT=>∃lo,c=(none,lo)∧RI X κ lt aT lo 0∧lo≤X.length∧x≤lo) (Q:=fun c aT=>c.1=none∧RI X κ lt aT X.length 0) ?_ ?_ ⟨0,rfl,⟨b,by rw[hp];rfl,(fun q hq=>by rw[hp]at hq;cases hq),fun i j a b c=>by lia⟩,by lia,by lia⟩) ?_)
 ·rintro x c aT _ hx ⟨lo,rfl,r,Mr,SJ⟩;dsimp only;by_cases h1:lo≥X.length
  ·rw[HB h1];have:lo=X.length:=by lia
   subst this;exact Wv ⟨rfl,r⟩
  ·rw[Dt h1];refine wpS_bind (Ot C r.b D9 (by lia) fun m dP b2 Cg Qp m1 m2 Qq=>?_);dsimp only;have r2:RI X κ lt dP lo m:=⟨b2,by rw[Cg];exact r.ch,fun z hz=>by
    rw[Cg]at hz;have:=r.ch.all.2 z hz;exact(r.sw z hz).congr fun t _ h2=>Qp t (by lia),Qq⟩
   by_cases h2:m<minRun' X.length X.length 0
   ·rw[HB h2];refine wpS_bind ε;refine wpS_bind (Ou C b2 (n:=min (X.length-lo) (minRun' X.length X.length 0)) (by lia) m1 D9 Qq fun DR b3 U3 Xl Xm=>?_);rw[if_neg Mi];refine E_ C ⟨b3,by rw[U3,Cg];exact r.ch,fun z hz=>?_,Xm⟩ D9 (by lia) fun P7 r4=>⟨_,rfl,r4,by lia,by lia⟩
    rw[U3]at hz;have:=r2.ch.all.2 z hz;exact(r2.sw z hz).congr fun t _ h2=>Xl t (by lia)
   ·rw[Dt h2];exact E_ C r2 m1 D9 fun P7 r4=>⟨_,rfl,r4,by lia,by lia⟩
 ·rintro c aT ⟨lo,rfl,r,Mr,SJ⟩;have:lo=X.length:=by lia
  subst this;exact⟨rfl,r⟩
 ·rintro⟨c1,c2⟩ aT ⟨e,r⟩;dsimp only at e⊢;subst e;exact wpS_bind (LC C rfl h0 r fun dP b2 Qq=>Wv (q dP b2 Qq))
end
open Classical in
noncomputable def Fb(X:List Keyed)(x:Keyed):Nat:=if h:∃i:Nat,X[i]?=some x then Classical.choose h else 0
theorem nC{X:List Keyed}{x:Keyed}(h:x∈X):X[Fb X x]?=some x:=by
 have h':∃i:Nat,X[i]?=some x:=List.mem_iff_getElem?.mp h;unfold Fb;rw[dif_pos h'];exact Classical.choose_spec h'
theorem LF{X:List Keyed}(nd:X.Nodup){i:Nat}{x:Keyed}(h:X[i]?=some x):Fb X x=i:=by
 have:=nC (WI h);exact(List.getElem?_inj (ZX this).1 nd).mp (this.trans h.symm)
theorem nE{X:List Keyed}{x:Keyed}(h:x∈X):Fb X x<X.length:=(ZX (nC h)).1
section
variable{prog:Program}{w:World}{A:Around}{E:Value→Shared→Prop}{s:Shared}{X:List Keyed}{κ:SortKind}{lt:Nat→Nat→Bool}
theorem HL{st:SortSt}{Q:Unit→SortSt→Prop}(nd:X.Nodup)(h0:0<X.length)(L:yK X.length lt)(ha:(Hi st).toList=X)(hk:kindOf st=κ)(hp:pendingOf st=#[])(hf:failedOf st=none)
  (hc:∀i j x y,X[i]?=some x→X[j]?=some y→∀C:Bool→Shared→Prop,C (lt i j) s→wpAny (model prog w) A (keyLt' κ x.1 y.1) C (fun _ _=>False) s)
  (q:∀p aT,yb X.length p→Sd lt p X.length→(Hi aT).toList=p.toList.map (fun i=>X.getD i (.none, .none))→failedOf aT=none→Q () aT):wpS (model prog w) A E s sortRuns' Q st:=by
 have C:EV prog w A s X κ fun x y=>lt (Fb X x) (Fb X y):=by
  refine⟨fun x hx y hy=>hc _ _ x y (nC hx) (nC hy),fun x hx y hy z hz=>L.tr _ _ _ (nE hx) (nE hy) (nE hz),fun x hx y hy=>L.as _ _ (nE hx) (nE hy),fun x hx y hy hn=>L.Sk _ _ (nE hx) (nE hy) fun e=>hn ?_,nd⟩;have h1:=nC hx;rw[e,nC hy]at h1;exact(WK h1).symm
 refine LD C h0 ⟨by rw[ha],hk,hf⟩ hp fun aT b sw=>?_
 have mem:∀x∈(Hi aT).toList,x∈X:=fun x hx=>b.pm.mem_iff.mp hx
 refine q ((Hi aT).map (Fb X)) aT ?_ (fun i j mV hj=>?_) ?_ b.fl
 ·unfold yb;rw[Array.toList_map];have h1:=b.pm.map (Fb X);have h2:X.map (Fb X)=List.range X.length:=by
   apply List.ext_getElem
   ·simp
   ·intro i h1 h2;simp only[List.getElem_map,List.getElem_range];exact LF nd (by simp at h1;simp[h1])
  rw[h2]at h1;exact h1
 ·have:=sw i j (Nat.zero_le _) mV hj;have g:∀k,k<X.length→gd ((Hi aT).map (Fb X)) k=Fb X (gg (Hi aT) k):=fun k hk=>by
   have z_:k<(Hi aT).size:=by rw[b.size];exact hk
   rw[EU,oU];simp[z_]
  rw[g i D9,g j hj];exact this
 ·rw[Array.toList_map,List.map_map]
  conv=>lhs;rw[←List.map_id (Hi aT).toList]
  apply List.map_congr_left;intro x hx;have:=nC (mem x hx);simp[List.getD_eq_getElem?_getD,this]
theorem BE{ks vs:List Value}(hl:ks.length=vs.length)(h0:0<vs.length)(L:yK vs.length lt)(nd:ks.Nodup)
  (hc:∀i j,i<vs.length→j<vs.length→∀C:Bool→Shared→Prop,C (lt i j) s→wpAny (model prog w) A (keyLt' κ (ks.getD i .none) (ks.getD j .none)) C (fun _ _=>False) s):
  wpAny (model prog w) A ((sortRuns').run (SortSt.mk' κ (ks.toArray.zip vs.toArray) #[] 7 none)) (fun r s'=>∃p:Array Nat,s'=s∧yb vs.length p∧Sd lt p vs.length∧arrOf r.2=p.map (kas_item (ks.toArray.zip vs.toArray))∧failedOf r.2=none) E s:=by
 have hz:(ks.zip vs).length=vs.length:=by rw[List.length_zip];lia
 have ea:(ks.toArray.zip vs.toArray).toList=ks.zip vs:=IM;have Xn:(ks.zip vs).Nodup:=by
  refine List.pairwise_iff_getElem.mpr fun i j hi hj mV e=>?_
  rw[List.getElem_zip,List.getElem_zip]at e;have:=(List.getElem_inj nd).mp (Prod.mk.inj e).1
  lia
 have run:=HL (prog:=prog) (w:=w) (A:=A) (E:=E) (s:=s) (X:=ks.zip vs) (κ:=κ) (lt:=lt) (st:=SortSt.mk' κ (ks.toArray.zip vs.toArray) #[] 7 none) (Q:=fun _ aT=>∃p:Array Nat,yb vs.length p∧Sd lt p vs.length∧arrOf aT=p.map (kas_item (ks.toArray.zip vs.toArray))∧failedOf aT=none) Xn D9 (by rw[hz];exact L) ea rfl rfl rfl (fun i j x y hx hy C h=>?_) fun p aT h1 h2 h3 h4=>⟨p,by rw[←hz];exact h1,by rw[←hz];exact h2,?_,h4⟩
 ·unfold wpS at run;refine wpAny_mono run (fun r s' ⟨h1,p,h2⟩=>⟨p,h1,h2⟩) fun _ _ e=>e
 ·obtain⟨x1,x2⟩:=x;obtain⟨y1,y2⟩:=y;have hi:=(ZX hx).1;have hj:=(ZX hy).1;rw[hz]at hi hj;obtain⟨e1,_⟩:=List.getElem?_zip_eq_some.mp hx;obtain⟨e2,_⟩:=List.getElem?_zip_eq_some.mp hy;have:=hc i j hi hj C h;simpa[List.getD_eq_getElem?_getD,e1,e2]using this
 ·apply Array.toList_inj.mp;rw[h3,Array.toList_map];apply List.map_congr_left;intro i _;unfold kas_item;rw[Array.getD_eq_getD_getElem?,←Array.getElem?_toList,ea,List.getD_eq_getElem?_getD]
end
def Kp(a:Addr)(h h':Heap):Prop:=∀b o,b≠a→h.get? b=some o→h'.get? b=some o
section
variable{prog:Program}{w:World}{A:Around}{E:Value→Shared→Prop}{s:Shared}
theorem CK{a:Addr}{vs:List Value}{n:Nat}{κ:SortKind}{lt:Nat→Nat→Bool}{P:PySem.Fin→Shared→Prop}(ho:s.heap.get? a=some (Zl "list" n))(h2:2≤vs.length)(DA:vs.length<10000)(LG:vs.Nodup)(L:yK vs.length lt)
  (hk:∀s',Kp a s.heap s'.heap→∀Q':SortKind→Shared→Prop,Q' κ s'→wpAny (model prog w) A (keyKind' vs.toArray) Q' (fun _ _=>False) s')
  (hc:∀i j,i<vs.length→j<vs.length→∀s',Kp a s.heap s'.heap→∀C:Bool→Shared→Prop,C (lt i j) s'→wpAny (model prog w) A (keyLt' κ (vs.getD i .none) (vs.getD j .none)) C (fun _ _=>False) s')
  (h:∀p h' c,yb vs.length p→Sd lt p vs.length→Kp a s.heap h'→h'.get? a=some (seqObj "list" (List.toArray (p.toList.map fun i=>vs.getD i Value.none)) c)→P (.done (.ret .none)) {s with heap:=h'}):
  wpAny (model prog w) A (Builtin.«list.sort» ⟨[.ref a],[]⟩) P E s:=by
 have s1:=Heap.SameBut.update s.heap a (Obj.mapSeq fun _=>(#[]:Array Value));obtain⟨e1,HM⟩:∃e1,(ua a).get? a=some (seqObj "list" #[] e1):=⟨_,get?_update_seq ho fun _=>#[]⟩
 rw[list_sort_plain];refine wpAny_bind (ς ho);refine wpAny_bind (ρ HM);generalize hh:(((ua a).push {cls:= .type "tuple",data:= .seq vs.toArray 0}).push {cls:= .type "list",data:= .seq #[] 0})=h3;have k3:Kp a s.heap h3:=fun b o hb e=>by
  rw[←hh];exact YG (YG ((s1.2 b hb).trans e))
 have LH:h3.get? a=some (seqObj "list" #[] e1):=by
  rw[←hh];exact YG (YG HM)
 show wpAny (model prog w) A _ P E {s with heap:=h3};dsimp only;have ya:¬vs.toArray.size<2:=by rw[List.size_toArray];lia
 rw[Dt ya,Dt ya];refine wpAny_bind (wpAny_mono (hk {s with heap:=h3} k3 (fun Qr s'=>Qr=κ∧s'={s with heap:=h3}) ⟨rfl,rfl⟩) ?_ fun _ _ x=>x.elim);rintro _ _ ⟨rfl,rfl⟩;refine wpAny_bind (wpAny_mono (BE (lt:=lt) rfl (by lia) L LG fun i j hi hj C hC=>hc i j hi hj {s with heap:=h3} k3 C hC) ?_ fun _ _ e=>e);rintro⟨⟨⟩,aT⟩ s' ⟨p,rfl,hp,hs,SK,hf⟩;dsimp only;rw[kat_snds rfl SK];have hsz:(List.toArray (p.toList.map fun i=>vs.getD i Value.none)).size=vs.length:=by rw[List.size_toArray,List.length_map,Array.length_toList,hp.size]
 have s2:=Heap.SameBut.update h3 a (Obj.mapSeq fun _=>List.toArray (p.toList.map fun i=>vs.getD i Value.none));obtain⟨c2,qc⟩:∃c2,(h3.update a (Obj.mapSeq fun _=>List.toArray (p.toList.map fun i=>vs.getD i Value.none))).get? a=some (seqObj "list" (List.toArray (p.toList.map fun i=>vs.getD i Value.none)) c2):=⟨_,get?_update_seq LH fun _=>List.toArray (p.toList.map fun i=>vs.getD i Value.none)⟩
 refine wpAny_bind (seqEpoch_at (s:={s with heap:=h3}) LH rfl (Xz (listUpdate_at (s:={s with heap:=h3}) LH rfl ?_ (Nat.zero_le _) (ZN (Nat.le_of_eq hsz) (by rw[sizeLine_eq];lia)))));rw[hf];simp only[bne_self_eq_false,Bool.false_eq_true,if_false];exact W0 (h p _ c2 hp hs (fun b o hb e=>(s2.2 b hb).trans (k3 b o hb e)) qc)
theorem yT{a:Addr}{vs:List Value}{n:Nat}{P:PySem.Fin→Shared→Prop}(ho:s.heap.get? a=some (Zl "list" n))(h2:vs.length<2)
  (h:∀h' c,Kp a s.heap h'→h'.get? a=some (Zl "list" c)→P (.done (.ret .none)) {s with heap:=h'}):
  wpAny (model prog w) A (Builtin.«list.sort» ⟨[.ref a],[]⟩) P E s:=by
 have s1:=Heap.SameBut.update s.heap a (Obj.mapSeq fun _=>(#[]:Array Value));obtain⟨e1,HM⟩:∃e1,(ua a).get? a=some (seqObj "list" #[] e1):=⟨_,get?_update_seq ho fun _=>#[]⟩
 rw[list_sort_plain];refine wpAny_bind (ς ho);refine wpAny_bind (ρ HM);generalize hh:(((ua a).push {cls:= .type "tuple",data:= .seq vs.toArray 0}).push {cls:= .type "list",data:= .seq #[] 0})=h3;have k3:Kp a s.heap h3:=fun b o hb e=>by
  rw[←hh];exact YG (YG ((s1.2 b hb).trans e))
 have LH:h3.get? a=some (seqObj "list" #[] e1):=by
  rw[←hh];exact YG (YG HM)
 show wpAny (model prog w) A _ P E {s with heap:=h3};dsimp only;have ya:vs.toArray.size<2:=by rw[List.size_toArray];lia
 rw[HB ya,HB ya];refine wpAny_bind (W0 (Xz (W0 ?_)));dsimp only;have SM:(Hi (SortSt.mk' general' (vs.toArray.zip vs.toArray) #[] 7 none)).map (·.2)=vs.toArray:=by
  show(vs.toArray.zip vs.toArray).map (·.2)=vs.toArray;apply Array.toList_inj.mp;rw[Array.toList_map,Array.toList_zip];exact List.map_snd_zip YH
 have s2:=Heap.SameBut.update h3 a (Obj.mapSeq fun _=>vs.toArray);obtain⟨c2,qc⟩:∃c2,(h3.update a (Obj.mapSeq fun _=>vs.toArray)).get? a=some (Zl "list" c2):=⟨_,get?_update_seq LH fun _=>vs.toArray⟩
 rw[SM];refine wpAny_bind (seqEpoch_at (s:={s with heap:=h3}) LH rfl (Xz (listUpdate_at (s:={s with heap:=h3}) LH rfl ?_ (Nat.zero_le _) (by rw[List.size_toArray,sizeLine_eq];lia))));simp only[bne_self_eq_false,Bool.false_eq_true,if_false];exact W0 (h _ c2 (fun b o hb e=>(s2.2 b hb).trans (k3 b o hb e)) qc)
theorem tJ{l:Addr}{vs:List Value}{κ:SortKind}{lt:Nat→Nat→Bool}{Q:Value→Shared→Prop}(hl:s.heap.IsList l vs.toArray)(DA:vs.length<10000)(LG:vs.Nodup)(L:yK vs.length lt)
  (hk:2≤vs.length→∀s',(∀b o,s.heap.get? b=some o→s'.heap.get? b=some o)→∀Q':SortKind→Shared→Prop,Q' κ s'→wpAny (model prog w) A.in1.in1 (keyKind' vs.toArray) Q' (fun _ _=>False) s')
  (hc:∀i j,i<vs.length→j<vs.length→∀s',(∀b o,s.heap.get? b=some o→s'.heap.get? b=some o)→∀C:Bool→Shared→Prop,C (lt i j) s'→wpAny (model prog w) A.in1.in1 (keyLt' κ (vs.getD i .none) (vs.getD j .none)) C (fun _ _=>False) s')
  (h:∀p h' D c,yb vs.length p→Sd lt p vs.length→(∀b o,s.heap.get? b=some o→h'.get? b=some o)→s.heap.objs.size≤D→h'.get? D=some (seqObj "list" (List.toArray (p.toList.map fun i=>vs.getD i Value.none)) c)→Q (.ref D) {s with heap:=h'}):
  wpAny (model prog w) A (call (.builtin "sorted") [.ref l]) Q E s:=by
 refine Calls.call_function_entry kind_sorted plain_sorted entry_sorted (args_sorted1 _) ?_;unfold Builtin.«sorted»;refine wpAny_bind (m:=checkCount "sorted" 1 1 _) (W0 (Xz (collect_list hl (Xz (wpAny_newList ?_ (by rw[sizeLine_eq];lia))) (by rw[sizeLine_eq];lia))));generalize hh:((s.heap.push (seqObj "list" #[] 0)).update s.heap.objs.size (Obj.mapSeq (·++vs.toArray)))=h1;have hsz:h1.objs.size=s.heap.objs.size+1:=by rw[←hh,Heap.size_update,size_push']
 have keep:∀b o,s.heap.get? b=some o→(h1.push (Zl "list" 0)).get? b=some o:=fun b o q=>by
  have hZ:b<s.heap.objs.size:=Y8 q;rw[Heap.get?_push_ne _ _ _ (by rw[hsz];exact ZM (Nat.lt_succ_of_lt hZ)),←hh,Heap.get?_update_ne _ _ _ _ (ZM hZ),Heap.get?_push_ne _ _ _ (ZM hZ)];exact q
 have IH:(h1.push (Zl "list" 0)).get? h1.objs.size=some (Zl "list" 0):=Heap.get?_push_size _ rfl;have DB:∀h',Kp h1.objs.size (h1.push (Zl "list" 0)) h'→∀b o,s.heap.get? b=some o→h'.get? b=some o:=fun h' k b o q=>k b o (by have:=Heap.lt_size q;rw[hsz];exact ZM (Nat.lt_succ_of_lt this)) (keep b o q)
 show wpAny _ _ _ _ _ {s with heap:=h1.push (Zl "list" 0)};refine wpAny_bind (wpAny_holding (wpAny_call_entry slot_list_sort ⟨_,IH,rfl⟩ entry_list_sort ?_ (args_list_sort _)));by_cases h2:2≤vs.length
 ·refine CK (s:={s with heap:=h1.push (Zl "list" 0)}) (lt:=lt) IH h2 DA LG L (fun s' k Q' q=>hk h2 s' (DB _ k) Q' q) (fun i j hi hj s' k C q=>hc i j hi hj s' (DB _ k) C q) fun p h' c hp hs k e=>?_
  exact⟨_,rfl,W0 ⟨_,rfl,h p h' _ c hp hs (DB _ k) (by rw[show({s with heap:=h1}:Shared).heap.objs.size=h1.objs.size from rfl,hsz];exact Nat.le_succ _) e⟩⟩
 ·refine yT (s:={s with heap:=h1.push (Zl "list" 0)}) IH D9 fun h' c k e=>?_
  have hp:yb vs.length (List.toArray (X_ vs.length)):=by unfold yb;simp
  refine⟨_,rfl,W0 ⟨_,rfl,h _ h' _ c hp (fun i j mV hj=>by lia) (DB _ k) (by rw[show({s with heap:=h1}:Shared).heap.objs.size=h1.objs.size from rfl,hsz];exact Nat.le_succ _) ?_⟩⟩;rw[e]
  congr 2
  match vs,h2 with
  |[],_=>rfl
  |[x],_=>rfl
  |x::y::r,h=>simp at h
end
def ip(p q:Int×Int):Bool:=if p.1=q.1 then decide (p.2<q.2)else decide (p.1<q.1)
theorem Fe{p q r:Int×Int}(a:ip p q=true)(b:ip q r=true):ip p r=true:=by
 unfold ip at*;split at a<;>split at b<;>split<;>simp_all<;>lia
theorem Al{p q:Int×Int}(a:ip p q=true):ip q p=false:=by
 unfold ip at*;split at a<;>split<;>simp_all<;>lia
theorem BF{p q:Int×Int}(h:p≠q):ip p q=true∨ip q p=true:=by
 unfold ip;by_cases e:p.1=q.1
 ·have:p.2≠q.2:=fun z=>h (Prod.ext e z)
  simp[e];lia
 ·have e':¬q.1=p.1:=fun z=>e z.symm
  simp[e,e'];lia
section
variable{prog:Program}{w:World}{A:Around}{E:Value→Shared→Prop}{s:Shared}
def iK(h:Heap)(x:Addr)(p:Int×Int):Prop:=∃o t u n,h.get? x=some o∧o.cls= .type "tuple"∧o.data= .seq #[.int p.1 t, .int p.2 u] n
theorem HN{x y:Addr}{p q:Int×Int}{C:Bool→Shared→Prop}(hx:iK s.heap x p)(hy:iK s.heap y q)(h:C (ip p q) s):wpAny (model prog w) A (keyLt' (tuples' true) (.ref x) (.ref y)) C E s:=by
 obtain⟨ox,t,u,n,h1,h2,h3⟩:=hx;obtain⟨oy,t',u',n',g1,g2,g3⟩:=hy;refine kat_lt h1 h3 g1 g3 (kat_cons ?_);have e0:SeqAt.EqAt A s (.int p.1 t) (.int q.1 t') (wA (.int p.1) (.int q.1)):=wB ⟨t,rfl⟩ ⟨t',rfl⟩ rfl rfl;have e1:SeqAt.EqAt A s (.int p.2 u) (.int q.2 u') (wA (.int p.2) (.int q.2)):=wB ⟨u,rfl⟩ ⟨u',rfl⟩ rfl rfl;refine e0 _ _ _ _ ?_;by_cases a:p.1=q.1
 ·have:wA (.int p.1) (.int q.1)=true:=by simp[wA,a]
  rw[this];refine kat_yes (kat_cons (e1 _ _ _ _ ?_));by_cases b:p.2=q.2
  ·have:wA (.int p.2) (.int q.2)=true:=by simp[wA,b]
   rw[this];refine kat_yes (kat_nil ?_);have:ip p q=decide (#[Value.int p.1 t, .int p.2 u].size<#[Value.int q.1 t', .int q.2 u'].size):=by simp[ip,a,b]
   rw[this]at h;exact h
  ·have:wA (.int p.2) (.int q.2)=false:=by simp[wA,b]
   rw[this];refine kat_no (kat_one _ _ (lt_int ?_));have:ip p q=decide (p.2<q.2):=by simp[ip,a]
   rw[this]at h;exact h
 ·have:wA (.int p.1) (.int q.1)=false:=by simp[wA,a]
  rw[this];refine kat_no (oneLt_int ?_);have:ip p q=decide (p.1<q.1):=by simp[ip,a]
  rw[this]at h;exact h
theorem vQ{h:Heap}:∀{its:List Value},(∀v∈its,∃x p,v= .ref x∧iK h x p)→∃fs,KatTups h its fs∧fs.length=its.length∧∀f∈fs,∃i t,f=Value.int i t
 |[],_=>⟨[], .nil,rfl,fun f hf=>by cases hf⟩
 |v::r,hv=>by
  obtain⟨x,p,rfl,o,t,u,n,h1,h2,h3⟩:=hv v (List.mem_cons_self ..);obtain⟨fs,k1,k2,k3⟩:=vQ (its:=r) fun v Kk=>hv v (ZL Kk)
  refine⟨.int p.1 t::fs, .cons h1 h2 h3 rfl k1,by simp[k2],fun f hf=>?_⟩;rcases List.mem_cons.mp hf with rfl|hf
  ·exact⟨_,_,rfl⟩
  ·exact k3 f hf
theorem CL{its:List Value}{Q:SortKind→Shared→Prop}(cG:0<its.length)(hv:∀v∈its,∃x p,v= .ref x∧iK s.heap x p)(h:Q (tuples' true) s):wpAny (model prog w) A (keyKind' its.toArray) Q E s:=by
 obtain⟨fs,k1,k2,k3⟩:=vQ hv;refine kat_kind (T:= .type "int") k1 D9 (fun v hv=>?_) (Nn) h;obtain⟨i,t,rfl⟩:=k3 v hv;exact .now
end
theorem tK{l:List Nat}{f:Nat→V}{g:Nat→Value}(h:∀i∈l,RelV (f i) (g i)):Vals (l.map f) (l.map g):=by
 induction l with
 |nil=>exact .nil
 |cons i r ih=>exact .cons (h i (List.mem_cons_self ..)) (ih fun j hj=>h j (ZL hj))
end L2
namespace QF
open PySem L2 PySem.Spec PyProof.Rows PySem.W PySem.Calls
inductive Ff(K:Frag)(vs:List V)(H:Hp)(Q:VK):Prop
 |mk (l:Addr) (xs:List V) (ps:List Pr) (_:vs=[.ref l]) (_:il K H l xs) (_:fK H xs ps) (_:ps.Nodup) (_:ps.length<10000) (_:∀D ys qs,H D=none→fK H ys qs→qs.Perm ps→qs.Pairwise (fun p q=>ip p q=true)→Q (.ref D) (upd H D (.lst ys))):Ff K vs H Q
theorem nF{X:Cx}(K:Frag)(hK:X.K=K:=by rfl):iD X (.builtin "sorted") (Ff K):=by
 subst hK;intro pins s σ H vs us Q I r h;obtain⟨l,xs,ps,rfl,hq,PS,nd,DA,q⟩:=h;obtain⟨u,rfl,rx⟩:=vals1 r;cases rx;obtain⟨its,r',pl,hz⟩:=I.list hq;have hlen:=r'.length;have ql:=PS.1;have key:∀i,i<its.length→∃t,xs[i]?=some (.ref t)∧its[i]?=some (.ref t)∧H t=some (.tup (iE (ps.getD i (0,0))))∧iK s.heap t (ps.getD i (0,0)):=fun i hi=>by
  have hp:ps[i]?=some (ps.getD i (0,0)):=by simp[show i<ps.length by lia]
  obtain⟨t,h1,h2⟩:=PS.2 i _ hp;obtain⟨v,h3,h4⟩:=r'.get h1;cases h4;refine⟨t,h1,h3,h2,?_⟩;obtain⟨Xo,r2,⟨o,e1,e2,n,e3⟩,_⟩:=I.tuple (xs:=iE (ps.getD i (0,0))) (.of h2);cases r2 with
  |cons a b=>
   cases b with
   |cons c d=>
    cases d;obtain⟨ta,rfl⟩:=a;obtain⟨tc,rfl⟩:=c;exact⟨o,ta,tc,n,e1,e2,e3⟩
 have DB:∀{h':Heap},(∀b o,s.heap.get? b=some o→h'.get? b=some o)→∀{x p},iK s.heap x p→iK h' x p:=fun k _ _ ⟨o,t,u,n,a,b⟩=>⟨o,t,u,n,k _ _ a,b⟩
 have L:yK its.length fun i j=>ip (ps.getD i (0,0)) (ps.getD j (0,0)):=by
  refine⟨fun i j k _ _ _ a b=>Fe a b,fun i j _ _ a=>Al a,fun i j hi hj cG=>BF fun e=>cG ?_⟩;have e:ps[i]?=ps[j]?:=by
   rw[ZQ D9,ZQ D9];simpa[show i<ps.length by lia,show j<ps.length by lia]using e
  exact(List.getElem?_inj D9 nd).mp e
 have LG:its.Nodup:=by
  refine List.pairwise_iff_getElem.mpr fun i j hi hj mV e=>?_
  obtain⟨t1,_,a2,a3,_⟩:=key i hi;obtain⟨t2,_,b2,b3,_⟩:=key j hj;rw[ZQ hi]at a2;rw[ZQ hj,←e,a2]at b2;cases b2;rw[a3]at b3;have h1:ps[i]?=some (ps.getD i (0,0)):=by simp[show i<ps.length by lia]
  have h2:ps[j]?=some (ps.getD j (0,0)):=by simp[show j<ps.length by lia]
  have e9:ps.getD i (0,0)=ps.getD j (0,0):=by
   have:=HO.tup.inj (WK b3);simp only[iE,List.cons.injEq,V.int.injEq,and_true]at this;exact Prod.ext this.1 this.2
  have:=(List.getElem?_inj D9 nd).mp (h1.trans (by rw[e9];exact h2.symm))
  lia
 refine tJ (κ:=tuples' true) pl.isList D9 LG L (fun h2 s' k Q' hq=>?_) (fun i j hi hj s' k C hC=>?_) fun p h' D c hp hs k hD e=>?_
 ·refine CL D9 (fun v hv=>?_) hq;obtain⟨i,hi,rfl⟩:=Α hv;obtain⟨t,_,h3,_,h5⟩:=key i hi;exact⟨t,_,by rw[ZQ hi]at h3;exact WK h3,DB k h5⟩
 ·obtain⟨t,_,h3,_,h5⟩:=key i hi;obtain⟨t',_,g3,_,g5⟩:=key j hj;have e1:its.getD i .none= .ref t:=by simp[h3]
  have e2:its.getD j .none= .ref t':=by simp[g3]
  rw[e1,e2];exact HN (DB k h5) (DB k g5) hC
 ·have mem:∀i∈p.toList,i<its.length:=fun i hi=>by
   have:=hp.mem_iff.mp hi;simpa using this
  have rel:Vals (p.toList.map fun i=>xs.getD i .cJ) (p.toList.map fun i=>its.getD i Value.none):=tK fun i hi=>by
   obtain⟨t,h1,h3,_⟩:=key i (mem i hi);have e1:xs.getD i .cJ= .ref t:=by simp[h1]
   have e2:its.getD i .none= .ref t:=by simp[h3]
   rw[e1,e2];rfl
  have hsz:(p.toList.map fun i=>xs.getD i V.cJ).length=its.length:=by rw[List.length_map,Array.length_toList,hp.size]
  have Am:(p.toList.map fun i=>ps.getD i (0,0)).length=its.length:=by rw[List.length_map,Array.length_toList,hp.size]
  refine⟨.ref D,_,I.laid (t':=s.toks) k hD (show cL X.prog X.w _ h' _ (.lst _)from⟨by rw[hsz,←hlen];exact hz,_,c,rel,e⟩),rfl,q D _ (p.toList.map fun i=>ps.getD i (0,0)) (I.bU.fresh hD) ⟨by rw[hsz,Am],fun i f hf=>?_⟩ ?_ ?_⟩
  ·rw[List.getElem?_map]at hf⊢;cases ei:p.toList[i]? with
   |none=>rw[ei]at hf;cases hf
   |some j=>
    rw[ei]at hf;have hf:ps.getD j (0,0)=f:=WK hf;obtain⟨t,h1,h3,h4,_⟩:=key j (mem j (WI ei));refine⟨t,?_,by rw[←hf];exact h4⟩;show some (xs.getD j .cJ)=_;simp[h1]
  ·have h1:=hp.map (fun i=>ps.getD i (0,0));refine h1.trans ?_;have:(X_ its.length).map (fun i=>ps.getD i (0,0))=ps:=by
    apply List.ext_getElem?;intro i;rw[List.getElem?_map];by_cases hi:i<its.length
    ·rw[List.getElem?_range hi];simp[show i<ps.length by lia]
    ·rw[uW Zc,uW D9];rfl
   rw[this]
  ·rw[List.pairwise_iff_getElem];intro i j hi hj mV;have sq:i<its.length:=by rw[Am]at hi;exact hi
   have yS:j<its.length:=by rw[Am]at hj;exact hj
   have:=hs i j mV yS;have CM:=hp.size;simp only[List.getElem_map];have e1:gd p i=p.toList[i]'(by simp;lia):=by simp[gd,show i<p.size by lia]
   have e2:gd p j=p.toList[j]'(by simp;lia):=by simp[gd,show j<p.size by lia]
   rw[e1,e2]at this;exact this
end QF
namespace L2
open PySem PySem.Spec PyProof.Rows PySem.W PySem.Calls
open AutoSeq1 (wpAny_loadPart')
theorem MB{A:Around}{s:Shared}{i j:Int}{t u:Tok}:SeqAt.EqAt A s (.int i t) (.int j u) (decide (i=j)):=by
 have:=wB (A:=A) (s:=s) (y:= .int i) (x:= .int j) ⟨t,rfl⟩ ⟨u,rfl⟩ rfl rfl;simpa[wA,Bool.beq_eq_decide_eq]using this
theorem Ox{prog:Program}{w:World}{A:Around}{E:Value→Shared→Prop}{s:Shared}{i j:Int}{t u:Tok}{Q:Value→Shared→Prop}(h:Q (.bool (decide (i<j))) s):wpAny (model prog w) A (richCompare .Lt (.int i t) (.int j u)) Q E s:=lt_int h
theorem Fg(l b:Addr)(p q:Int×Int)(t u t' u':Tok)(n n2:Nat)(dd rO:Option Addr)(sl mR:Array (Option Value)):
  Meets (Builtin.«tuple.__lt__» ⟨[.ref l, .ref b],[]⟩) (fun A R s=>s.heap.get? l=some {cls:= .type "tuple",dict:=dd,data:= .seq #[.int p.1 t, .int p.2 u] n,slots:=sl}∧s.heap.get? b=some {cls:= .type "tuple",dict:=rO,data:= .seq #[.int q.1 t', .int q.2 u'] n2,slots:=mR}∧
    R (.ok (.ret (.bool (ip p q)))) s):=
 .of_wp fun prog w A R s h=>by
  obtain⟨hp,g,d,tk,os⟩:=s;obtain⟨hl,hb,h⟩:=h;have f2:=AutoSeq1.sub_tuple_tuple
  wp_walk using wpAny_loadPart' hl,wpAny_loadPart' hb
  refine(show wpAny (model prog w) A.in1 (eqBool (.int p.1 t) (.int q.1 t')) _ _ _ from MB _ _ _ _ ?_);by_cases a:p.1=q.1
  ·rw[Zn a]
   wp_walk
   refine(show wpAny (model prog w) A.in1 (eqBool (.int p.2 u) (.int q.2 u')) _ _ _ from MB _ _ _ _ ?_);by_cases c:p.2=q.2
   ·rw[Zn c]
    wp_walk
    have e:ip p q=false:=by simp[ip,a,c]
    rw[e]at h;exact⟨_,rfl,h⟩
   ·rw[Zs c];have e:ip p q=decide (p.2<q.2):=by simp[ip,a]
    rw[e]at h
    wp_walk using Ox
    exact⟨_,rfl,h⟩
  ·rw[Zs a];have e:ip p q=decide (p.1<q.1):=by simp[ip,a]
   rw[e]at h
   wp_walk using Ox
   exact⟨_,rfl,h⟩
theorem tL{prog:Program}{w:World}{A:Around}{E:Value→Shared→Prop}{s:Shared}{x y:Addr}{p q:Int×Int}{Q:Value→Shared→Prop}(hu:A.units<cLine)(hx:iK s.heap x p)(hy:iK s.heap y q)(h:Q (.bool (ip p q)) s):wpAny (model prog w) A (compareOp .Lt (.ref x) (.ref y)) Q E s:=by
 obtain⟨⟨c,dd,da,sl⟩,t,u,n,h1,h2,h3⟩:=hx;obtain⟨⟨c',IW,abW,Q9⟩,t',u',n',g1,g2,g3⟩:=hy;simp only at h2 h3 g2 g3;subst h2 h3 g2 g3;exact richCompare_meets_room (op:= .Lt) ⟨_,h1,rfl⟩ ⟨_,g1,rfl⟩ F.slot_tuple_lt F.entry_tuple_lt (F.args_tuple_lt_2 _ _) (Fg x y p q t u t' u' n n' dd IW sl Q9) ⟨h1,g1,show Value.bool (ip p q)≠Value.notImplemented∧Q (.bool (ip p q)) s from⟨(fun x=>nomatch x),h⟩⟩ hu
abbrev Kw:=Int×(Int×Int)
def rz(a b:Kw):Bool:=if a.1=b.1 then ip a.2 b.2 else decide (a.1<b.1)
theorem Fh{p q r:Kw}(a:rz p q=true)(b:rz q r=true):rz p r=true:=by
 unfold rz at*;by_cases h1:p.1=q.1<;>by_cases h2:q.1=r.1
 ·rw[HB h1]at a;rw[HB h2]at b;rw[HB (h1.trans h2)];exact Fe a b
 ·rw[Dt h2]at b;rw[Dt (by rw[h1];exact h2),h1];exact b
 ·rw[Dt h1]at a;rw[Dt (by rw[←h2];exact h1),←h2];exact a
 ·rw[Dt h1]at a;rw[Dt h2]at b;have a:=of_decide_eq_true a;have b:=of_decide_eq_true b;rw[Dt D9];exact Zn D9
theorem An{p q:Kw}(a:rz p q=true):rz q p=false:=by
 unfold rz at*;by_cases h1:p.1=q.1
 ·rw[HB h1]at a;rw[HB h1.symm];exact Al a
 ·rw[Dt h1]at a;rw[Dt (fun z=>h1 z.symm)];have a:=of_decide_eq_true a;exact Zs D9
theorem BG{p q:Kw}(h:p≠q):rz p q=true∨rz q p=true:=by
 unfold rz;by_cases h1:p.1=q.1
 ·rw[HB h1,HB h1.symm];exact BF fun z=>h (Prod.ext h1 z)
 ·rw[Dt h1,Dt (fun z=>h1 z.symm)];rcases Int.lt_or_lt_of_ne h1 with z|z
  ·exact .inl (Zn z)
  ·exact .inr (Zn z)
section
variable{prog:Program}{w:World}{A:Around}{E:Value→Shared→Prop}{s:Shared}
def vR(h:Heap)(x:Addr)(k:Kw):Prop:=∃o t y c,h.get? x=some o∧o.cls= .type "tuple"∧o.data= .seq #[.int k.1 t, .ref y] c∧iK h y k.2
theorem qC{x y:Addr}{p q:Int×Int}(hu:A.units+1<cLine)(hx:iK s.heap x p)(hy:iK s.heap y q):SeqAt.EqAt A s (.ref x) (.ref y) (decide (p=q)):=by
 obtain⟨o,t,u,n,h1,h2,h3⟩:=hx;obtain⟨o',t',u',n',g1,g2,g3⟩:=hy;by_cases e:x=y
 ·subst e;rw[h1]at g1;cases g1;rw[h3]at g3;injection g3 with g3 _;have g3:=congrArg Array.toList g3;simp at g3;have:p=q:=Prod.ext g3.1.1 g3.2.1;rw[Zn this];exact SeqAt.EqAt.same _
 ·have:=SeqAt.EqAt.of_refs e (SeqAt.RcAt.tuples (A:=A) (s:=s) (items:=#[.int p.1 t, .int p.2 u]) (items2:=#[.int q.1 t', .int q.2 u']) (e:=fun j=>if j=0 then decide (p.1=q.1)else decide (p.2=q.2)) ⟨o,h1,h2,n,h3⟩ ⟨o',g1,g2,n',g3⟩ D9 fun j h1 h2=>by
   have:j=0∨j=1:=by simp at h1;lia
   rcases this with rfl|rfl
   ·exact MB
   ·exact MB)
  have e2:((X_ (min #[Value.int p.1 t, .int p.2 u].size #[Value.int q.1 t', .int q.2 u'].size)).all (fun j=>if j=0 then decide (p.1=q.1)else decide (p.2=q.2))&&#[Value.int p.1 t, .int p.2 u].size==#[Value.int q.1 t', .int q.2 u'].size)=decide (p=q):=by
   simp[List.range_succ];by_cases a:p.1=q.1<;>by_cases b:p.2=q.2<;>simp[Prod.ext_iff,a,b]
  rw[e2]at this;exact this
theorem LI{x y:Addr}{p q:Kw}{C:Bool→Shared→Prop}(hu:A.units+1<cLine)(hx:vR s.heap x p)(hy:vR s.heap y q)(h:C (rz p q) s):wpAny (model prog w) A (keyLt' (tuples' true) (.ref x) (.ref y)) C E s:=by
 obtain⟨ox,t,z,n,h1,h2,h3,h4⟩:=hx;obtain⟨oy,t',z',n',g1,g2,g3,g4⟩:=hy;refine kat_lt h1 h3 g1 g3 (kat_cons (MB _ _ _ _ ?_));by_cases a:p.1=q.1
 ·rw[Zn a];refine kat_yes (kat_cons (qC hu h4 g4 _ _ _ _ ?_));have e:rz p q=ip p.2 q.2:=HB a;by_cases b:p.2=q.2
  ·rw[Zn b];refine kat_yes (kat_nil ?_);have:rz p q=decide (#[Value.int p.1 t, .ref z].size<#[Value.int q.1 t', .ref z'].size):=by rw[e,b];simp[ip]
   rw[this]at h;exact h
  ·rw[Zs b];rw[e]at h;exact kat_no (kat_one _ _ (tL D9 h4 g4 h))
 ·rw[Zs a];have e:rz p q=decide (p.1<q.1):=Dt a;rw[e]at h;exact kat_no (oneLt_int h)
end
theorem LJ{X:Cx}{cm:Bool}{k:Nat}{f:Addr}{fd:FuncData}{ps:List Str}{sp:Sp}{A':Around}{pins:List (Addr×Obj)}{σ:St}{H:Hp}{s:Shared}{Q:VK}{us:List Value}{vs:List V}{E:Value→Shared→Prop}
  (F:aZ X.prog X.w X.K X.mg X.base (dz X.prog X.w) cm k f fd ps sp) (hr:eQ cm k A') (hf:A'.frames=X.A.frames) (hb:Binds X.K fd ps []) (I:Inv X pins σ H s) (r:Vals vs us) (h:sp vs H Q E0):
  wpAny (model X.prog X.w) A' (call (.ref f) us) (EP X pins σ Q) E s:=by
 have hl:(us++[]).length=ps.length:=by rw[List.append_nil,←r.length];exact F.len _ _ _ _ h
 have Mw:=hb s us I.qe hl;rw[List.append_nil]at Mw;refine wpAny_call (codeAny_mono (F.run A' X.stack s H ⟨us,[]⟩ us vs Q E0 hr {I.Ko with frames:=by rw[hf];exact I.ok.frames} Mw r h) fun r s' hq=>?_);cases r with
 |error e=>obtain⟨_,_,_,_,_,_,_,_,_,_,_,_,_,h⟩:=hq;exact h.elim
 |ok fl=>
  cases fl with
  |ret u=>exact I.after hq
  |next=>exact False.elim hq
  |brk=>exact False.elim hq
  |cont=>exact False.elim hq
end L2
namespace QF
open PySem L2 PySem.Spec PyProof.Rows PySem.W PySem.Calls
def KQ(H1:Hp)(w:Kw):VK:=fun y H2=>av H1 H2∧∃k t,y= .ref k∧H2 k=some (.tup [.int w.1, .ref t])∧H2 t=some (.tup [.int w.2.1, .int w.2.2])
def kl(ws:List Kw)(i j:Nat):Bool:=rz (Zv i) (Zv j)
def Ks(H:Hp)(ws:List Kw)(as:List Addr):Prop:=∀j k,as[j]?=some k→∃t,H k=some (.tup [.int (Zv j).1, .ref t])∧H t=some (.tup [.int (Zv j).2.1, .int (Zv j).2.2])
theorem Ks.key{X:Cx}{pins:List (Addr×Obj)}{σ:L2.St}{H:Hp}{s:Shared}{ws:List Kw}{as:List Addr}{j:Nat}{k:Addr}(I:Inv X pins σ H s)(h:Ks H ws as)(e:as[j]?=some k):vR s.heap k (Zv j):=by
 obtain⟨t,h1,h2⟩:=h j k e;obtain⟨its,r,⟨o,e1,e2,n,e3⟩,_⟩:=I.tuple (xs:=[.int (Zv j).1, .ref t]) (.of h1);obtain⟨its',r',⟨o',g1,g2,n',g3⟩,_⟩:=I.tuple (xs:=[.int (Zv j).2.1, .int (Zv j).2.2]) (.of h2);cases r with
 |cons a b=>cases b with
  |cons c d=>
   cases d;obtain⟨ta,rfl⟩:=a;cases c;cases r' with
   |cons a' b'=>cases b' with
    |cons c' d'=>
     cases d';obtain⟨Xp,rfl⟩:=a';obtain⟨Xq,rfl⟩:=c';exact⟨o,ta,t,n,e1,e2,e3,o',Xp,Xq,n',g1,g2,g3⟩
theorem yU{h:Heap}:∀{its:List Value},(∀v∈its,∃x p,v= .ref x∧vR h x p)→∃fs,KatTups h its fs∧fs.length=its.length∧∀f∈fs,∃i t,f=Value.int i t
 |[],_=>⟨[], .nil,rfl,fun f hf=>by cases hf⟩
 |v::r,hv=>by
  obtain⟨x,p,rfl,o,t,u,n,h1,h2,h3,_⟩:=hv v (List.mem_cons_self ..);obtain⟨fs,k1,k2,k3⟩:=yU (its:=r) fun v Kk=>hv v (ZL Kk)
  refine⟨.int p.1 t::fs, .cons h1 h2 h3 rfl k1,by simp[k2],fun f hf=>?_⟩;rcases List.mem_cons.mp hf with rfl|hf
  ·exact⟨_,_,rfl⟩
  ·exact k3 f hf
theorem Fi{prog:Program}{w:World}{A:Around}{E:Value→Shared→Prop}{s:Shared}{its:List Value}{Q:SortKind→Shared→Prop}(cG:0<its.length)(hv:∀v∈its,∃x p,v= .ref x∧vR s.heap x p)(h:Q (tuples' true) s):wpAny (model prog w) A (keyKind' its.toArray) Q E s:=by
 obtain⟨fs,k1,k2,k3⟩:=yU hv;refine kat_kind (T:= .type "int") k1 D9 (fun v hv=>?_) (Nn) h;obtain⟨i,t,rfl⟩:=k3 v hv;exact .now
section
variable{X:Cx}{cm:Bool}{k:Nat}{f:Addr}{fd:FuncData}{ps:List Str}{sp:Sp}{A':Around}{pins:List (Addr×Obj)}{σ:L2.St}{H:Hp}{s:Shared}{E:Value→Shared→Prop}{a kS:Addr}{vs:List Value}{xs:List V}{ws:List Kw}{e1:Nat}{P:PySem.Fin→Shared→Prop}
theorem Fj(hu:A'.units+1<cLine)(I:Inv X pins σ H s){kA:Array Value}{e:Nat}{as:List Addr}(hk:s.heap.get? kS=some (seqObj "list" kA e))(ha:s.heap.get? a=some (seqObj "list" #[] e1))(fk:ir X pins H kS)(fa:ir X pins H a)(cG:kS≠a)
  (ek:kA.toList=as.map Value.ref) (el:as.length=vs.length) (K:Ks H ws as) (r:Vals xs vs) (hlen:ws.length=vs.length) (nd:ws.Nodup) (DA:vs.length<10000)
  (h:∀p s',yb vs.length p→Sd (kl ws) p vs.length→Inv X pins σ (upd H a (.lst (p.toList.map fun i=>xs.getD i .cJ))) s'→P (.done (.ret .none)) s'):
  wpAny (model X.prog X.w) A' (ksk_end a false vs.toArray e1 (.ref kS) kA) P E s:=by
 have aaS:kA=(as.map Value.ref).toArray:=by apply Array.toList_inj.mp;simpa using ek
 subst aaS;have hl:(as.map Value.ref).length=vs.length:=by rw[List.length_map];exact el
 have key:∀i,i<vs.length→∃x,(as.map Value.ref).getD i Value.none= .ref x∧vR s.heap x (Zv i):=fun i hi=>by
  have hx:as[i]?=some as[i]:=ZQ D9;exact⟨as[i],by simp[show i<as.length by lia],K.key I hx⟩
 have L:yK vs.length (kl ws):=by
  refine⟨fun i j k _ _ _ a b=>Fh a b,fun i j _ _ a=>An a,fun i j hi hj cG=>BG fun e=>cG ?_⟩;have e:ws[i]?=ws[j]?:=by
   rw[ZQ D9,ZQ D9];simpa[show i<ws.length by lia,show j<ws.length by lia]using e
  exact(List.getElem?_inj D9 nd).mp e
 have tail:∀(st:SortSt)(p:Array Nat),yb vs.length p→Sd (kl ws) p vs.length→(Hi st).map (·.2)=List.toArray (p.toList.map fun i=>vs.getD i Value.none)→failedOf st=none→wpAny (model X.prog X.w) A' (ksk_tail a false e1 (.ref kS) st) P E s:=fun st p hp hs hm hf=>by
  have hsz:(List.toArray (p.toList.map fun i=>vs.getD i Value.none)).size=vs.length:=by rw[List.size_toArray,List.length_map,Array.length_toList,hp.size]
  have s1:=Heap.SameBut.update s.heap kS (Obj.mapSeq fun _=>(#[]:Array Value));have Ak:(ua kS).get? a=some (seqObj "list" #[] e1):=(s1.2 a (WR cG)).trans ha;have s2:=Heap.SameBut.update (ua kS) a (Obj.mapSeq fun _=>List.toArray (p.toList.map fun i=>vs.getD i Value.none));obtain⟨c2,qc⟩:∃c2,((ua kS).update a (Obj.mapSeq fun _=>List.toArray (p.toList.map fun i=>vs.getD i Value.none))).get? a=some (seqObj "list" (List.toArray (p.toList.map fun i=>vs.getD i Value.none)) c2):=⟨_,get?_update_seq Ak fun _=>List.toArray (p.toList.map fun i=>vs.getD i Value.none)⟩
  unfold ksk_tail
  try dsimp only
  simp only[Bool.false_eq_true,if_false];rw[hm];refine wpAny_bind (listUpdate_at hk rfl (Xz (wpAny_letGo ?_)) (by rw[List.size_toArray,hl,sizeLine_eq];lia) (Nat.zero_le _));refine wpAny_bind (seqEpoch_at (s:={s with heap:=ua kS}) Ak rfl (Xz (listUpdate_at (s:={s with heap:=ua kS}) Ak rfl ?_ (Nat.zero_le _) (ZN (Nat.le_of_eq hsz) (by rw[sizeLine_eq];lia)))));rw[hf];simp only[bne_self_eq_false,Bool.false_eq_true,if_false];have hr:=r.length;have mem:∀i∈p.toList,i<vs.length:=fun i hi=>by
   have:=hp.mem_iff.mp hi;simpa using this
  have rel:Vals (p.toList.map fun i=>xs.getD i .cJ) (p.toList.map fun i=>vs.getD i Value.none):=tK fun i hi=>by
   have hi:=mem i hi;obtain⟨v,h1,h2⟩:=r.get (i:=i) (x:=xs[i]) (by simp[show i<xs.length by lia]);have e1:xs.getD i .cJ=xs[i]:=by simp[show i<xs.length by lia]
   have e2:vs.getD i .none=v:=by simp[h1]
   rw[e1,e2];exact h2
  refine wpAny_pure (h p _ hp hs (I.Bn (t':=s.toks) (fp:=[kS,a]) (fun b hb=>?_) fa (fun b o hb e=>?_) ⟨by rw[List.length_map,Array.length_toList,hp.size,sizeLine_eq];lia,_,c2,rel,qc⟩))
  ·simp only[List.mem_cons,List.mem_singleton,List.not_mem_nil,or_false]at hb;rcases hb with rfl|rfl
   ·exact fk
   ·exact fa
  ·simp only[List.mem_cons,List.not_mem_nil,or_false,not_or]at hb;exact(s2.2 b hb.2).trans ((s1.2 b hb.1).trans e)
 unfold ksk_end
 try dsimp only
 simp only[Bool.false_eq_true,if_false];by_cases h2:2≤vs.length
 ·have ya:¬vs.toArray.size<2:=by rw[List.size_toArray];lia
  rw[Dt ya,Dt ya];refine wpAny_bind (wpAny_mono (Fi (Q:=fun Qr s'=>Qr=tuples' true∧s'=s) (E:=E) (its:=as.map Value.ref) (by lia) (fun v hv=>?_) ⟨rfl,rfl⟩) ?_ fun _ _ x=>x)
  ·obtain⟨i,hi,rfl⟩:=List.mem_iff_getElem.mp hv;obtain⟨x,h3,h5⟩:=key i D9;exact⟨x,_,by rw[←h3];simp[show i<as.length by simpa using hi],h5⟩
  rintro Qr s0 ⟨Xs,Qs⟩;rw[Xs,Qs];have Oy:(as.map Value.ref).Nodup:=by
   refine List.pairwise_iff_getElem.mpr fun i j hi hj mV e=>?_
   have sq:i<as.length:=by simpa using hi
   have yS:j<as.length:=by simpa using hj
   have e:as[i]=as[j]:=by simpa using e
   obtain⟨t1,a1,a2⟩:=K i as[i] (ZQ sq);obtain⟨t2,b1,b2⟩:=K j as[j] (ZQ yS);rw[←e,a1]at b1;have h1:=HO.tup.inj (WK b1);simp only[List.cons.injEq,V.int.injEq,V.ref.injEq,and_true]at h1;rw[←h1.2,a2]at b2;have h2:=HO.tup.inj (WK b2);simp only[List.cons.injEq,V.int.injEq,and_true]at h2;have e9:ws.getD i (0,(0,0))=ws.getD j (0,(0,0)):=Prod.ext h1.1 (Prod.ext h2.1 h2.2);have g1:ws[i]?=some (Zv i):=by simp[show i<ws.length by lia]
   have g2:ws[j]?=some (Zv j):=by simp[show j<ws.length by lia]
   have:=(List.getElem?_inj D9 nd).mp (g1.trans (by rw[e9];exact g2.symm))
   lia
  refine wpAny_bind (wpAny_mono (BE (lt:=kl ws) hl D9 L Oy fun i j hi hj C hC=>?_) ?_ fun _ _ e=>e)
  ·obtain⟨x,h3,h5⟩:=key i hi;obtain⟨y,g3,g5⟩:=key j hj;rw[h3,g3];exact LI hu h5 g5 hC
  rintro⟨⟨⟩,aT⟩ s' ⟨p,SN,hp,hs,SK,hf⟩;rw[SN];exact tail aT p hp hs (kat_snds hl SK) hf
 ·have ya:vs.toArray.size<2:=by rw[List.size_toArray];lia
  rw[HB ya,HB ya];refine wpAny_bind (W0 (Xz (W0 ?_)));have hp:yb vs.length (List.toArray (X_ vs.length)):=by unfold yb;simp
  refine tail _ _ hp (fun i j mV hj=>by lia) ?_ rfl;show((as.map Value.ref).toArray.zip vs.toArray).map (·.2)=_;apply Array.toList_inj.mp;rw[Array.toList_map,Array.toList_zip];refine(List.map_snd_zip Zc).trans ?_
  match vs,h2 with
  |[],_=>rfl
  |[x],_=>rfl
  |x::y::r,h=>simp at h
theorem CO(F:aZ X.prog X.w X.K X.mg X.base (dz X.prog X.w) cm k f fd ps sp)(hr:eQ cm k A')(hf:A'.frames=X.A.frames)(hb:Binds X.K fd ps [])(hu:A'.units+1<cLine)(I:Inv X pins σ H s)(hk:s.heap.get? kS=some (seqObj "list" #[] 0))(ha:s.heap.get? a=some (seqObj "list" #[] e1))
  (fk:ir X pins H kS) (fa:ir X pins H a) (cG:kS≠a) (r:Vals xs vs) (hlen:ws.length=vs.length) (nd:ws.Nodup) (DA:vs.length<10000)
  (oz:∀i v H1,xs[i]?=some v→av H H1→sp [v] H1 (KQ H1 (Zv i)) E0)
  (h:∀p H' s',yb vs.length p→Sd (kl ws) p vs.length→av H H'→H' a=none→Inv X pins σ (upd H' a (.lst (p.toList.map fun i=>xs.getD i .cJ))) s'→P (.done (.ret .none)) s'):
  wpAny (model X.prog X.w) A' (ksk_rest a (.ref f) false vs.toArray e1 (.ref kS)) P E s:=by
 have MA:=r.length;unfold ksk_rest;refine wpAny_bind (wpAny_rule ?_);first
  |rw[List.forIn_toArray]
  |(rw[←Array.forIn_toList];simp only[List.toList_toArray])
 refine wpAny_bind (ksk_fold (fun i s'=>∃(H':Hp)(as:List Addr)(e:Nat),Inv X pins σ H' s'∧av H H'∧s'.heap.get? kS=some (seqObj "list" (as.map Value.ref).toArray e)∧s'.heap.get? a=some (seqObj "list" #[] e1)∧ir X pins H' kS∧ir X pins H' a∧as.length=i∧Ks H' ws as) vs 0 s
  ⟨H,[],0,I,fun _ _ z=>z,hk,ha,fk,fa,rfl,fun j k e=>by simp at e⟩ ?_ ?_)
 ·rintro j x s' hx ⟨H',as,e,I',sm,z_,HP,Qt,Oz,el,K⟩;simp only[Nat.zero_add]at el⊢;have hj:j<vs.length:=(ZX hx).1;obtain⟨u,U4,Qu⟩:=r.get (i:=j) (x:=xs[j]) (by simp[show j<xs.length by lia]);rw[hx]at U4;cases U4;have Ip:=I'.pinned (fp:=[kS,a]) (fun b hb=>by
   simp only[List.mem_cons,List.not_mem_nil,or_false]at hb;rcases hb with rfl|rfl
   ·exact Qt
   ·exact Oz) (fun b hb=>by
   simp only[List.mem_cons,List.not_mem_nil,or_false]at hb;rcases hb with rfl|rfl
   ·exact⟨_,z_,fun v z=>nomatch z⟩
   ·exact⟨_,HP,fun v z=>nomatch z⟩)
  refine wpAny_bind (wpAny_attempt (wpAny_mono (LJ F hr hf hb Ip (.cons Qu .nil) (oz j xs[j] H' (by simp[show j<xs.length by lia]) sm)) (fun v wk he=>?_) fun _ _ z=>z));obtain⟨y,H2,I2,ry,SO,kk,t,rfl,k1,k2⟩:=he;cases ry;dsimp only;have pk:=I2.pin (kS,_) (ZI (ZI (gK Mi z_)));have pa:=I2.pin (a,_) (ZI (ZI (gK Mi HP)));have I3:=I2.lC;have s1:=Heap.SameBut.update wk.heap kS (Obj.mapSeq (·.push (.ref kk)));obtain⟨c2,qc⟩:∃c2,(wk.heap.update kS (Obj.mapSeq (·.push (.ref kk)))).get? kS=some (seqObj "list" ((as.map Value.ref).toArray.push (.ref kk)) c2):=⟨_,get?_update_seq pk.1 (·.push (.ref kk))⟩
  refine wpAny_bind (listUpdate_at pk.1 rfl ?_ (by simp;rw[sizeLine_eq];lia) (by simp;rw[sizeLine_eq];lia));have MD:ir X pins H2 kS:=⟨pk.2.1,Qt.2⟩
  have Xu:ir X pins H2 a:=⟨pa.2.1,Oz.2⟩
  refine wpAny_pure ⟨rfl,H2,as++[kk],c2,I3.turned (t':=wk.toks) (it:=kS) (fun b o hb e=>(s1.2 b hb).trans e) MD.1 MD.2.1 MD.2.2.2.1 MD.2.2.2.2.1 MD.2.2.2.2.2,fun b o z=>SO b o (sm b o z),?_,(s1.2 a (WR cG)).trans pa.1,MD,Xu,by simp[el],fun i k ei=>?_⟩
  ·show(wk.heap.update kS (Obj.mapSeq (·.push (.ref kk)))).get? kS=_;rw[qc]
   congr 2
   simp
  ·by_cases hi:i<as.length
   ·rw[ZA hi]at ei;obtain⟨t',g1,g2⟩:=K i k ei;exact⟨t',SO _ _ g1,SO _ _ g2⟩
   ·rw[ZF D9]at ei;have Xv:i-as.length=0:=by
     have:=(ZX ei).1;simp at this
     lia
    rw[Xv]at ei;have:kk=k:=by simpa using ei
    subst this;have:i=j:=by lia
    subst this;exact⟨t,k1,k2⟩
 ·rintro s' ⟨H',as,e,I',sm,z_,HP,Qt,Oz,el,K⟩;refine wpAny_bind (listItems_at z_ rfl ?_);exact Fj hu I' z_ HP Qt Oz cG Mi (by lia) K r hlen nd DA fun p s2 hp hs I2=>h p H' s2 hp hs sm Oz.1 I2
theorem CP{n:Nat}(F:aZ X.prog X.w X.K X.mg X.base (dz X.prog X.w) cm k f fd ps sp)(hr:eQ cm k A')(hf:A'.frames=X.A.frames)(hb:Binds X.K fd ps [])(hu:A'.units+1<cLine)(I:Inv X pins σ H s)(ho:s.heap.get? a=some (Zl "list" n))
  (fa:ir X pins H a) (r:Vals xs vs) (hlen:ws.length=vs.length) (nd:ws.Nodup) (DA:vs.length<10000)
  (oz:∀i v H1,xs[i]?=some v→av H H1→sp [v] H1 (KQ H1 (Zv i)) E0)
  (h:∀p H' s',yb vs.length p→Sd (kl ws) p vs.length→av H H'→H' a=none→Inv X pins σ (upd H' a (.lst (p.toList.map fun i=>xs.getD i .cJ))) s'→P (.done (.ret .none)) s'):
  wpAny (model X.prog X.w) A' (ksk_tree a (.ref f) false) P E s:=by
 have s1:=Heap.SameBut.update s.heap a (Obj.mapSeq fun _=>(#[]:Array Value));obtain⟨e1,HM⟩:∃e1,(ua a).get? a=some (seqObj "list" #[] e1):=⟨_,get?_update_seq ho fun _=>#[]⟩
 have I1:Inv X pins σ H {s with heap:=ua a}:=I.turned (t':=s.toks) (it:=a) (fun b o hb e=>(s1.2 b hb).trans e) fa.1 fa.2.1 fa.2.2.2.1 fa.2.2.2.2.1 fa.2.2.2.2.2;unfold ksk_tree;refine wpAny_bind (ς ho);refine wpAny_bind (ρ HM);have I2:Inv X pins σ H {s with heap:=(ua a).push (Zl "tuple" 0)}:=I1.kept (t':=s.toks) fun b o e=>YG e
 have I3:Inv X pins σ H {s with heap:=((ua a).push (Zl "tuple" 0)).push (seqObj "list" #[] 0)}:=I2.kept (t':=s.toks) fun b o e=>YG e
 have fk:=I2.uF YH (I2.bU.fresh YH);have sE:=Heap.get?_push_of_some (Zl "tuple" 0) HM;exact CO F hr hf hb hu I3 (Heap.get?_push_size _ rfl) (YG sE) fk fa (Nat.ne_of_gt (Y8 sE)) r hlen nd DA oz h
theorem Ao{l:Addr}{Q:VK}(F:aZ X.prog X.w X.K X.mg X.base (dz X.prog X.w) cm k f fd ps sp)(hr:eQ cm (k+1) X.A)(hb:Binds X.K fd ps [])(I:Inv X pins σ H s)(hq:il X.K H l xs)(hlen:ws.length=xs.length)(nd:ws.Nodup)(DA:xs.length<10000)
  (oz:∀i v H1,xs[i]?=some v→av H H1→sp [v] H1 (KQ H1 (Zv i)) E0)
  (h:∀p H' D,yb xs.length p→Sd (kl ws) p xs.length→av H H'→H D=none→H' D=none→Q (.ref D) (upd H' D (.lst (p.toList.map fun i=>xs.getD i .cJ)))):
  wpAny (model X.prog X.w) X.A (call (.builtin "sorted") [.ref l] [(Str.ofString "key", .ref f)]) (EP X pins σ Q) E s:=by
 obtain⟨vs,r,pl,hz⟩:=I.list hq;have MA:=r.length;refine call_function_entry_kw kind_sorted plain_sorted entry_sorted (ksk_s1 _ _) ?_;unfold Builtin.«sorted»;refine wpAny_bind (m:=checkCount "sorted" 1 1 _) (W0 (Xz (collect_list pl.isList (Xz (wpAny_newList ?_ (by rw[sizeLine_eq];lia))) (by rw[sizeLine_eq];lia))));generalize hh:((s.heap.push (seqObj "list" #[] 0)).update s.heap.objs.size (Obj.mapSeq (·++vs.toArray)))=h1;have hsz:h1.objs.size=s.heap.objs.size+1:=by rw[←hh,Heap.size_update,size_push']
 have keep:∀b o,s.heap.get? b=some o→(h1.push (Zl "list" 0)).get? b=some o:=fun b o q=>by
  have hZ:b<s.heap.objs.size:=Y8 q;rw[Heap.get?_push_ne _ _ _ (by rw[hsz];exact ZM (Nat.lt_succ_of_lt hZ)),←hh,Heap.get?_update_ne _ _ _ _ (ZM hZ),Heap.get?_push_ne _ _ _ (ZM hZ)];exact q
 have IH:(h1.push (Zl "list" 0)).get? h1.objs.size=some (Zl "list" 0):=Heap.get?_push_size _ rfl;have hD:s.heap.objs.size≤h1.objs.size:=by rw[hsz];exact Nat.le_succ _
 have U5:H h1.objs.size=none:=I.bU.fresh hD;have I1:Inv X pins σ H {s with heap:=h1.push (Zl "list" 0)}:=I.kept (t':=s.toks) keep;show wpAny _ _ _ _ _ {s with heap:=h1.push (Zl "list" 0)};refine wpAny_bind (wpAny_holding (wpAny_call_entry_kw slot_list_sort ⟨_,IH,rfl⟩ entry_list_sort ?_ (ksk_l1 _ _)));show wpAny (model X.prog X.w) X.A.in1.in1 (Builtin.«list.sort» ⟨[.ref h1.objs.size],[(Str.ofString "key", .ref f)]⟩) _ _ _;rw[ksk_t1];have un:=hr.un;refine CP F ⟨hr.hd,by have:=hr.dp;show X.A.depth+3*k+5<_;lia,by show X.A.units+1+1+16*k+200<_;lia⟩ rfl hb (by show X.A.units+1+1+1<_;lia) I1 IH (I.uF hD U5) r D9 nd D9 oz fun p H' s' hp hs sm hn I'=>⟨_,rfl,W0 ⟨_,rfl, .ref h1.objs.size,_,I',rfl,?_⟩⟩
 rw[←MA]at hp hs;exact h p H' _ hp hs sm U5 hn
end
inductive Fl(K:Frag)(sp:Sp)(x:V)(H:Hp)(Q:VK):Prop
 |mk (l:Addr) (xs:List V) (ws:List Kw) (_:x= .ref l) (_:il K H l xs) (_:ws.length=xs.length) (_:ws.Nodup) (_:xs.length<10000) (_:∀i v H1,xs[i]?=some v→av H H1→sp [v] H1 (KQ H1 (Zv i)) E0)
  (_:∀p H' D,yb xs.length p→Sd (kl ws) p xs.length→av H H'→H D=none→H' D=none→Q (.ref D) (upd H' D (.lst (p.toList.map fun i=>xs.getD i .cJ)))):Fl K sp x H Q
def LK(K:Frag)(sp:Sp)(ta:TE):TE:=fun σ H Q=>ta σ H fun x H1=>Fl K sp x H1 Q
theorem Fm{X:Cx}(K:Frag){cm:Bool}{k:Nat}{x:Str}{ps:List Str}{sp:Sp}{e:Expr}{ta:TE}{p pos kp fp:Pos}(D:bM X.prog X.w X.K X.mg X.base cm k x ps sp)(hr:eQ cm (k+1) X.A)(he:PE X e ta)(hg:Gl X "sorted")(hm:X.mg "sorted"=none)
  (Xw:Gl X x:=by rfl) (wj:(x==("__debug__":Str))=false:=by decide) (hs:starEach [e] X.env=[(false,eval e X.env)]:=by rfl) (hK:X.K=K:=by rfl):
  PE X (.Call (.Name "sorted" p) [e] [⟨some "key", .Name x fp,kp⟩] pos) (LK K sp ta):=by
 subst hK;obtain⟨f,fd,ok,Xx,hk,hb⟩:=D;intro pins s σ H Q I h;refine wpAny_Call_Name_kw (lA I hg hm (PyProof.Rows.Boot.«sorted») ?_ ZO (Nn));rw[hs];refine callWith_builtin_kwB (first:=[]) rfl rfl (evalArgs_kwB rfl ?_);refine Calls.spliced_cons ?_;show wpAny _ _ (eval e X.env) _ _ s;refine cD Δ fun v s1 ⟨y,H1,I1,r1,q1⟩=>Calls.spliced_nil ?_
 obtain⟨l,xs,ws,rfl,hq,hlen,nd,DA,oz,q⟩:=q1;cases r1;refine kws_cons ?_;show wpAny _ _ (eval (.Name x fp) X.env) _ _ s1;refine cD (A0 (v:= .ref f) Xw Xx rfl wj pins s1 σ H1 (fun y H2=>y= .ref f∧H2=H1) I1 ⟨rfl,rfl⟩) fun u s2 ⟨y,H2,I2,r2,e1,e2⟩=>?_
 subst e1 e2;cases r2;refine kws_nil ?_;exact Ao ok hr hb I2 hq hlen nd DA oz q
end QF
namespace L2
open PySem PySem.Spec PyProof.Rows PySem.W PySem.Calls
def ME(hi:Int)(n:Nat):It:=⟨fun i _=>i<n,fun i H x H'=>H'=H∧x= .int (hi-i),fun i _=>n≤i⟩
theorem CQ{P:Program}{w:World}{K:PySem.W.Frag}{tg:Expr}(it:Addr)(hi:Int)(n:Nat):Turn P w K tg (ME hi n) [it] it (fun i h=>IsRangeIter h it (hi+(i:Nat)*(-1)) ((n:Int)-(i:Nat)) (-1)) where
 mem:=IM
 obj:=fun i h st b hb=>by
  have e:b=it:=by simpa using hb
  subst e;exact⟨_,st,fun v z=>by
   have z':Data.fields _=Data.cell v:=z;cases z'⟩
 keep:=fun i h h' st k=>k it (IM) _ st
 item:=by
  intro X hP hw hK hc i pins s σ H E I hf st hg;subst hP hw hK;obtain⟨f0,f1,f2,f3,f4,f5⟩:=hf it (IM);have W:=Walks.range (prog:=X.prog) (w:=X.w) (I.ok.hd hc) it hi (-1) n;refine W.item i s _ _ hg st fun v h' tk hv aT kk=>?_
  obtain⟨t,rfl⟩:=hv;have I1:Inv X pins σ H {s with heap:=h',toks:=tk}:=I.turned (fun b o hb e=>kk b o (by simpa using hb) e) f0 f1 f3 f4 f5;refine⟨_,rfl,yn (s:={s with heap:=h',toks:=tk}) (n:="range_iterator") aT rfl rfl (Nn) ⟨.int (hi-i),H,I1,⟨t,?_⟩,⟨rfl,rfl⟩,aT,fun b hb=>(hf b hb).1⟩⟩
  congr 1
  lia
 done:=by
  intro X hP hw hK hc i pins s σ H E I hf st hg;subst hP hw hK;obtain⟨f0,f1,f2,f3,f4,f5⟩:=hf it (IM);exact wpAny_pyNext_range_end (I.ok.hd hc) st (by have:n≤i:=hg;lia) fun h' eb=>⟨rfl,I.turned (t':=s.toks) (fun b o hb e=>eb b o hb e) f0 f1 f3 f4 f5⟩
 self:=fun _ _ _ _ _ st h=>wpAny_pyIter_rangeiter st h
theorem rangeSize_down(a b:Int):Builtin.Range.rangeSize a b (-1)=if a>b then a-b else 0:=by
 unfold Builtin.Range.rangeSize;rw[if_neg ZO];split<;>simp
theorem small_down{a b:Int}(ha:-(2^62)≤a)(HP:a<2^62)(hb:-(2^62)≤b)(Mw:b<2^62):Builtin.Range.small a b (-1)=true:=by
 unfold Builtin.Range.small;rw[rangeSize_down];simp only[Builtin.Range.rangeFitsLong,Bool.and_eq_true,Bool.or_eq_true,decide_eq_true_eq,beq_iff_eq,show ¬(-1:Int)>0 by decide,if_false];split<;>lia
section
variable{X:Cx}{tg:Expr}
theorem HQ{pins:List (Addr×Obj)}{σ:L2.St}{H:Hp}{s:Shared}{R:It→Hp→Prop}{E:Value→Shared→Prop}{hi lo:Int}{t u v:Tok}{tk:Nat}(I:Inv X pins σ H s)(h1:-(2^62)≤hi)(h2:hi<2^62)(h3:-(2^62)≤lo)(h4:lo<2^62)
  (q:R (ME hi (hi-lo).toNat) H):wpAny (model X.prog X.w) X.A (pyIter (.ref s.heap.objs.size)) (Rq X pins σ tg R) E {s with heap:=s.heap.push {cls:= .type "range",data:= .fields #[.int hi t, .int lo u, .int (-1) v]},toks:=tk}:=by
 refine wpAny_pyIter_range (IsRange.new ..) (small_down h1 h2 h3 h4) ?_;have I1:Inv X pins σ H {s with heap:=s.heap.push {cls:= .type "range",data:= .fields #[.int hi t, .int lo u, .int (-1) v]},toks:=tk}:=I.kept fun b o e=>YG e
 refine⟨(s.heap.push {cls:= .type "range",data:= .fields #[.int hi t, .int lo u, .int (-1) v]}).objs.size,[(s.heap.push {cls:= .type "range",data:= .fields #[.int hi t, .int lo u, .int (-1) v]}).objs.size],_,_,H,rfl,
  I1.kept (t':=tk) fun b o e=>YG e,CQ _ hi (hi-lo).toNat,?_,fun b hb=>?_,q⟩
 ·have e1:hi+((0:Nat):Int)*(-1)=hi:=IM;have e2:(((hi-lo).toNat:Nat):Int)-((0:Nat):Int)=Builtin.Range.rangeSize hi lo (-1):=by rw[rangeSize_down];split<;>lia
  show IsRangeIter _ _ (hi+((0:Nat):Int)*(-1)) ((((hi-lo).toNat:Nat):Int)-((0:Nat):Int)) (-1);rw[e1,e2];exact Heap.get?_push_size _ rfl
 ·have e:b=(s.heap.push {cls:= .type "range",data:= .fields #[.int hi t, .int lo u, .int (-1) v]}).objs.size:=by simpa using hb
  subst e;exact I1.uF YH (I1.bU.fresh YH)
def aaI(ta:TA):TI:=fun σ H R=>ta σ H fun vs H1=>∃i j:Int,vs=[.int i, .int j, .int (-1)]∧(-(2^30)≤i∧i<2^30∧-(2^30)≤j∧j<2^30)∧R (ME i (i-j).toNat) H1
theorem vS{a b c:Expr}{ta:TA}{p pos:Pos}(hg:Gl X "range")(hm:X.mg "range"=none)(ha:PA X [a,b,c] ta)(hs:starEach [a,b,c] X.env=[(false,eval a X.env),(false,eval b X.env),(false,eval c X.env)]:=by rfl)(Kl:starEach [b,c] X.env=[(false,eval b X.env),(false,eval c X.env)]:=by rfl):
  PI X tg (.Call (.Name "range" p) [a,b,c] [] pos) (aaI ta):=by
 intro pins s σ H R I h;refine Call_ (lA I hg hm boot_range (PyProof.Rows.callWith_type1 (cD (ha pos pins s σ H _ I h) fun us s1 ⟨vs,H1,I1,r1,q1⟩=>?_) (by rw[hs,Kl]) (by rw[Kl];rfl)));obtain⟨i,j,e,⟨q1,q2,q3,q4⟩,q⟩:=q1;subst e;cases r1 with
 |cons r rr=>
  cases rr with
  |cons r' rr=>
   cases rr with
   |cons r2 rr=>
    cases rr;obtain⟨t,rfl⟩:=r;obtain⟨t',rfl⟩:=r';obtain⟨t2,rfl⟩:=r2;exact call_range_3 ZO (HQ I1 D9 (by lia) (by lia) (by lia) q) (Or.inl (PyProof.noPylong_small D9))
theorem yV{hi:Int}{n:Nat}{g:TG}{tb:TS}{D:Ends}{σ:L2.St}{H:Hp}(Pv:Nat→L2.St→Hp→Prop)(h0:Pv 0 σ H)
  (hs:∀i σ H,i<n→Pv i σ H→g (.int (hi-i)) σ H fun fA H2=>tb {D with nx:=Pv (i+1),ct:=Pv (i+1),bk:=D.nx} fA H2) (hd:∀σ H,Pv n σ H→D.nx σ H):
  ∃W:Nat→Nat→L2.St→Hp→Prop,(∃m,W 0 m σ H)∧∀i m σ H,W i m σ H→
   ((ME hi n).stop i H∧D.nx σ H)∨((ME hi n).go i H∧∃N:L2.St→Hp→Prop,(∀bx H',N bx H'→∃m',m'<m∧W (i+1) m' bx H')∧∀x H',(ME hi n).GI i H x H'→g x σ H' fun fA H2=>tb {D with nx:=N,ct:=N,bk:=D.nx} fA H2):=by
 refine⟨fun i m σ H=>m=n-i∧i≤n∧Pv i σ H,⟨n,IM,Nat.zero_le _,h0⟩,?_⟩;rintro i m σ H ⟨rfl,sq,p⟩;by_cases hZ:i<n
 ·refine .inr ⟨hZ,Pv (i+1),fun bx H' p'=>⟨n-(i+1),by lia,rfl,hZ,p'⟩,fun x H' y=>?_⟩;obtain⟨e,y⟩:=y;subst e y;exact hs i σ _ hZ p
 ·have e:i=n:=by lia
  subst e;exact .inl ⟨Nat.le_refl _,hd σ H p⟩
end
theorem CS{d:Addr}{o:Obj}{kvs:List (List Key×V)}{ls:List Str}{js:List Nat}{g:TG}{tt:TT}{te:TE}{σ:L2.St}{H1:Hp}{D:Addr}{Q:VK}(Pv:Nat→List V→L2.St→Hp→Prop)
  (h0:Pv 0 [] (lD ls js σ) (upd H1 D (.lst []))) (hl:∀i ys σ H,i≤kvs.length→Pv i ys σ H→H d=some (.sj o (.dT kvs)))
  (hs:∀i p ys σ H,kvs[i]?=some p→Pv i ys σ H→g p.2 σ H fun fA H3=>tt fA H3 fun b H4=>if b=true then te fA H4 fun y H5=>H5 D=some (.lst ys)∧ys.length<sizeLine∧Pv (i+1) (ys++[y]) fA (upd H5 D (.lst (ys++[y])))else Pv (i+1) ys fA H4)
  (hd:∀ys σ H,Pv kvs.length ys σ H→Q (.ref D) H):sY (Sj d o kvs) ls js g tt te σ H1 D Q:=
 oK (n:=kvs.length) Pv h0 (fun i ys σ H hi p=>⟨hl i ys σ H (Nat.le_of_lt hi) p,hi⟩) (fun ys σ H p=>⟨hl _ ys σ H YH p,Nat.le_refl _⟩)
  (fun i ys σ H x H2 hi p y=>by
   obtain⟨rfl,q,hq,rfl⟩:=y;exact hs i q ys σ _ hq p) hd
theorem Fn{X:Cx}{cm:Bool}{k:Nat}{x:Str}{C:Addr}{ps:List Str}{l':List V}{sp:Sp}{E:L2.St→XK}{p pos:Pos}(D:mS X.prog X.w X.K X.mg X.base cm k x C ps l' sp)(hr:eQ cm (k+1) X.A)(hx:Passes (dz X.prog X.w) X E)(hg:Gl X x:=by rfl)(wj:(x==("__debug__":Str))=false:=by decide):
  PE X (.Call (.Name x p) [] [] pos) (A_ C sp l' E DY):=by
 obtain⟨f,fd,ds,ok,M,hm,hb,hd⟩:=D;exact D1 M ok hr hg hm hb hd hx wj
end L2
namespace QF
open PySem L2
structure qD(H:Hp)(C x dx e b:Addr)(es bs:List Addr)(f:Nat→Nat→Option Int)(o p:Int)(n m:Nat):Prop where
 ob:H x=some (.ins C dx (gI o p e b))
 he:H e=some (.lst (es.map V.ref))
 te:i_ H es (dD f o p) n m
 hb:H b=some (.lst (bs.map V.ref))
 tb:i_ H bs (Bq f o p) (n+1) (m+1)
theorem qD.keep{H H':Hp}{C x dx e b:Addr}{es bs:List Addr}{f:Nat→Nat→Option Int}{o p:Int}{n m:Nat}(t:qD H C x dx e b es bs f o p n m)(s:av H H'):qD H' C x dx e b es bs f o p n m:=
 ⟨s _ _ t.ob,s _ _ t.he,t.te.same s,s _ _ t.hb,t.tb.same s⟩
theorem Fo(o p:Int)(e b:Addr):(gI o p e b).lookup ("goes_on":Str)=none:=by kernel_rfl
theorem BH(o p:Int)(e b:Addr):(gI o p e b).lookup ("crossings_before":Str)=none:=by kernel_rfl
theorem Jt(o p:Int)(e b:Addr):(gI o p e b).lookup ("is_brought_by":Str)=none:=by kernel_rfl
theorem LL(o p:Int)(e b:Addr):(gI o p e b).lookup ("pair_before":Str)=none:=by kernel_rfl
theorem OB(o p:Int)(e b:Addr):(gI o p e b).lookup ("way_to":Str)=none:=by kernel_rfl
def gJ:Option Int→Bool
 |none=>false
 |some b=>decide (0≤b)
def bq(f:Nat→Nat→Option Int)(o p:Int)(i j:Nat):List Pr:=
 (if bA Ε o=Bq f o p (i+1) (j+1)then[((i:Int),((j+1:Nat):Int))]else[])++(if bA (Bq f o p (i+1) j) p=Bq f o p (i+1) (j+1)then[(((i+1:Nat):Int),(j:Int))]else[])
def cK(f:Nat→Nat→Option Int)(o p:Int):Nat→Nat→Nat×Nat
 |0,_=>(0,0)
 | _+1,0=>(0,0)
 |i+1,j+1=>if dD f o p i j=Bq f o p (i+1) (j+1)then(i,j)else if bA Ε o=Bq f o p (i+1) (j+1)then cK f o p i (j+1)else cK f o p (i+1) j
termination_by i j=>(i,j)
theorem kF(f:Nat→Nat→Option Int)(o p:Int):∀i j,0<i→0<j→(cK f o p i j).1<i∧(cK f o p i j).2<j∨Bq f o p i j=none
 |0,_,h,_=>V' h D9
 | _+1,0,_,h=>V' h D9
 |i+1,j+1,_,_=>by
  cases hB:Bq f o p (i+1) (j+1)with
  |none=>exact .inr rfl
  |some v=>
   left
   unfold cK;by_cases h1:dD f o p i j=Bq f o p (i+1) (j+1)
   ·rw[HB h1];exact⟨IM,IM⟩
   ·rw[Dt h1];by_cases h2:bA Ε o=Bq f o p (i+1) (j+1)
    ·rw[HB h2];have hn:Bq f o p i (j+1)≠none:=fun z=>by rw[z,hB]at h2;simp[bA]at h2
     have hi:0<i:=by
      cases i with
      |zero=>exact V' (iJ f o p (j+1)) hn
      |succ i=>lia
     rcases kF f o p i (j+1) hi D9 with z|z
     ·exact⟨by lia,z.2⟩
     ·exact V' z hn
    ·rw[Dt h2];have hn:Bq f o p (i+1) j≠none:=fun z=>by
      have e:Bq f o p (i+1) (j+1)=oP [dD f o p i j,bA Ε o,bA (Bq f o p (i+1) j) p]:=by
       rw[Bq];rfl
      rw[z]at e;have:bA none p=(none:Option Int):=rfl;rw[this]at e;have key:∀a b:Option Int,oP [a,b,none]=a∨oP [a,b,none]=b:=fun a b=>by
       cases a<;>cases b<;>simp[oP]
       rename_i x y
       by_cases yQ:x≤y
       ·right;lia
       ·left;lia
      rcases key (dD f o p i j) (bA Ε o)with k|k
      ·exact h1 (by rw[e,k])
      ·exact h2 (by rw[e,k])
     have hj:0<j:=by
      cases j with
      |zero=>exact V' (by unfold Bq;rfl) hn
      |succ j=>lia
     rcases kF f o p (i+1) j D9 hj with z|z
     ·exact⟨z.1,by lia⟩
     ·exact V' z hn
termination_by i j=>(i,j)
def eG(f:Nat→Nat→Option Int)(o p:Int):Nat→Nat→Nat→List (Nat×Nat)
 |0,i,j=>[(i,j)]
 |k+1,i,j=>if gJ (Bq f o p i j)=true then eG f o p k (cK f o p i j).1 (cK f o p i j).2++[(i,j)]else[(i,j)]
def aP(q:Nat×Nat):Pr:=((q.1:Int),(q.2:Int))
inductive qE(C CT:Addr)(vs:List V)(H:Hp)(Q:VK)(u3:XK):Prop
 |mk (x dx w t:Addr) (c:Case) (as:List Addr) (f:Nat→Nat→Option Int) (n m:Nat) (_:vs=[.ref x, .ref w, .ref t]) (_:H x=some (.ins C dx [])) (_:H dx=some (.own x)) (_:H w=some (.lst (as.map V.ref))) (_:i_ H as f n m) (_:yE H CT t c) (_:n≤1000) (_:m≤1000) (_:∀H' e b,SameBut x H H'→H' x=some (.ins C dx (gI c.out c.into e b))→Tab H H' e (dD f c.out c.into) n m→(0<n→Tab H H' b (Bq f c.out c.into) (n+1) (m+1))→Q .cJ H'):qE C CT vs H Q u3
inductive xc(C:Addr)(vs:List V)(H:Hp)(Q:VK)(u3:XK):Prop
 |mk (x dx e b:Addr) (es bs:List Addr) (f:Nat→Nat→Option Int) (o p:Int) (n m:Nat) (pr:Addr) (i j:Nat) (_:vs=[.ref x, .ref pr]) (_:qD H C x dx e b es bs f o p n m) (_:H pr=some (.tup [.int i, .int j])) (_:i≤n) (_:j≤m) (_:Q (.bl (gJ (Bq f o p i j))) H):xc C vs H Q u3
inductive Ap(C:Addr)(vs:List V)(H:Hp)(Q:VK)(u3:XK):Prop
 |mk (x dx e b:Addr) (es bs:List Addr) (f:Nat→Nat→Option Int) (o p:Int) (n m:Nat) (cr pr:Addr) (i j k l:Nat) (_:vs=[.ref x, .ref cr, .ref pr]) (_:qD H C x dx e b es bs f o p n m) (_:H cr=some (.tup [.int i, .int j])) (_:H pr=some (.tup [.int k, .int l])) (_:i≤n) (_:j≤m) (_:k<n) (_:l<m) (_:Q (.bl (decide (dD f o p k l=Bq f o p i j))) H):Ap C vs H Q u3
inductive tM(C:Addr)(vs:List V)(H:Hp)(Q:VK)(u3:XK):Prop
 |mk (x dx e b:Addr) (es bs:List Addr) (f:Nat→Nat→Option Int) (o p:Int) (n m:Nat) (cr:Addr) (i j:Nat) (_:vs=[.ref x, .ref cr]) (_:qD H C x dx e b es bs f o p n m) (_:H cr=some (.tup [.int ((i+1:Nat):Int), .int ((j+1:Nat):Int)])) (_:i<n) (_:j<m) (_:∀H' r us,av H H'→H r=none→H' r=some (.lst us)→fK H' us (bq f o p i j)→Q (.ref r) H'):tM C vs H Q u3
inductive xf(C:Addr)(vs:List V)(H:Hp)(Q:VK)(u3:XK):Prop
 |mk (x dx e b:Addr) (es bs:List Addr) (f:Nat→Nat→Option Int) (o p:Int) (n m:Nat) (pr:Addr) (i j:Nat) (_:vs=[.ref x, .ref pr]) (_:qD H C x dx e b es bs f o p n m) (_:H pr=some (.tup [.int i, .int j])) (_:i≤n) (_:j≤m) (_:Bq f o p i j≠none) (_:∀H' r,av H H'→H' r=some (.tup (iE (aP (cK f o p i j))))→Q (.ref r) H'):xf C vs H Q u3
inductive Aq(C:Addr)(vs:List V)(H:Hp)(Q:VK)(u3:XK):Prop
 |mk (x dx e b:Addr) (es bs:List Addr) (f:Nat→Nat→Option Int) (o p:Int) (n m:Nat) (pr:Addr) (i j:Nat) (_:vs=[.ref x, .ref pr]) (_:qD H C x dx e b es bs f o p n m) (_:H pr=some (.tup [.int i, .int j])) (_:i<n) (_:j<m) (_:n≤1000) (_:∀H' r us,av H H'→H r=none→H' r=some (.lst us)→fK H' us ((eG f o p i i j).map aP)→Q (.ref r) H'):Aq C vs H Q u3
theorem Xy(a b:Option Int):oP [a,b,none]=a∨oP [a,b,none]=b:=by
 cases a<;>cases b<;>simp[oP]
 rename_i x y
 by_cases yQ:x≤y
 ·right;lia
 ·left;lia
theorem yW{f:Nat→Nat→Option Int}{o p:Int}{i j:Nat}(hB:Bq f o p (i+1) (j+1)≠none)(h1:dD f o p i j≠Bq f o p (i+1) (j+1)):
  ∃i2 j2,(bq f o p i j)[0]?=some (aP (i2+1,j2+1))∧i2≤i∧j2≤j∧i2+j2<i+j∧Bq f o p (i2+1) (j2+1)≠none∧cK f o p (i2+1) (j2+1)=cK f o p (i+1) (j+1):=by
 by_cases h2:bA Ε o=Bq f o p (i+1) (j+1)
 ·have hn:Bq f o p i (j+1)≠none:=fun z=>by rw[z]at h2;exact hB h2.symm
  cases i with
  |zero=>exact V' (iJ f o p (j+1)) hn
  |succ i=>
   refine⟨i,j,?_,by lia,by lia,by lia,hn,?_⟩
   ·unfold bq;rw[HB h2];rfl
   ·conv=>rhs;unfold cK
    rw[Dt h1,HB h2]
 ·have hn:Bq f o p (i+1) j≠none:=fun z=>by
   have e:Bq f o p (i+1) (j+1)=oP [dD f o p i j,bA Ε o,bA (Bq f o p (i+1) j) p]:=by rw[Bq];rfl
   rw[z,show bA none p=(none:Option Int)from rfl]at e;rcases Xy (dD f o p i j) (bA Ε o)with k|k
   ·exact h1 (by rw[e,k])
   ·exact h2 (by rw[e,k])
  have h3:bA (Bq f o p (i+1) j) p=Bq f o p (i+1) (j+1):=by
   have e:Bq f o p (i+1) (j+1)=oP [dD f o p i j,bA Ε o,bA (Bq f o p (i+1) j) p]:=by rw[Bq];rfl
   have key:∀a b c:Option Int,oP [a,b,c]≠a→oP [a,b,c]≠b→c=oP [a,b,c]:=fun a b c=>by
    cases a<;>cases b<;>cases c<;>simp[oP]<;>lia
   rw[e];exact key _ _ _ (fun z=>h1 (by rw[e];exact z.symm)) (fun z=>h2 (by rw[e];exact z.symm))
  cases j with
  |zero=>exact V' (by unfold Bq;rfl) hn
  |succ j=>
   refine⟨i,j,?_,by lia,by lia,by lia,hn,?_⟩
   ·unfold bq;rw[Dt h2,HB h3];rfl
   ·conv=>rhs;unfold cK
    rw[Dt h1,Dt h2]
theorem j7{f:Nat→Nat→Option Int}{o p:Int}{i j:Nat}(h:gJ (Bq f o p i j)=true):0<i∧0<j∧Bq f o p i j≠none:=by
 have hn:Bq f o p i j≠none:=fun z=>by rw[z]at h;cases h
 refine⟨?_,?_,hn⟩
 ·cases i with
  |zero=>exact V' (iJ f o p j) hn
  |succ i=>lia
 ·cases j with
  |zero=>cases i with
   |zero=>exact V' (iJ f o p 0) hn
   |succ i=>exact V' (by unfold Bq;rfl) hn
  |succ j=>lia
theorem gP{f:Nat→Nat→Option Int}{o p:Int}{i j:Nat}(h:¬gJ (Bq f o p i j)=true):∀k,eG f o p k i j=[(i,j)]
 |0=>rfl
 |k+1=>by rw[eG,Dt h]
theorem CU(f:Nat→Nat→Option Int)(o p:Int)(i:Nat):∀k k' j,i≤k→i≤k'→eG f o p k i j=eG f o p k' i j:=by
 induction i using Nat.strongRecOn with
 |ind i ih=>
  intro k k' j h h';by_cases hg:gJ (Bq f o p i j)=true
  ·obtain⟨a,b,c⟩:=j7 hg;have hl:=(kF f o p i j a b).resolve_right c;obtain⟨k,rfl⟩:∃k1,k=k1+1:=⟨k-1,by lia⟩
   obtain⟨k',rfl⟩:∃k1,k'=k1+1:=⟨k'-1,by lia⟩
   rw[eG,eG,HB hg,HB hg,ih _ hl.1 k k' _ (by lia) (by lia)]
  ·rw[gP hg,gP hg]
theorem vT{f:Nat→Nat→Option Int}{o p:Int}{i j:Nat}(h:gJ (Bq f o p i j)=true):eG f o p i i j=eG f o p (cK f o p i j).1 (cK f o p i j).1 (cK f o p i j).2++[(i,j)]:=by
 obtain⟨a,b,c⟩:=j7 h;have hl:=(kF f o p i j a b).resolve_right c;obtain⟨i,rfl⟩:∃k1,i=k1+1:=⟨i-1,by lia⟩
 rw[eG,HB h,CU f o p _ i _ _ (by lia) (Nat.le_refl _)]
structure Ju(K:W.Frag)(C:Addr):Prop where
 cl:wg K C
 worth:bY K C "worth"
 way:bY K C "way"
 row:bY K C "row"
 pairs:bY K C "pairs"
def mY(w:Int)(a r p:Addr):List (Str×V):=[("worth", .int w),("way", .ref a),("row", .ref r),("pairs", .ref p)]
theorem j8(w:Int)(a r p:Addr):(mY w a r p).lookup ("worth":Str)=some (V.int w):=by kernel_rfl
theorem qF(w:Int)(a r p:Addr):(mY w a r p).lookup ("way":Str)=some (V.ref a):=by kernel_rfl
theorem As(w:Int)(a r p:Addr):(mY w a r p).lookup ("row":Str)=some (V.ref r):=by kernel_rfl
theorem jb(w:Int)(a r p:Addr):(mY w a r p).lookup ("pairs":Str)=some (V.ref p):=by kernel_rfl
theorem LM(w:Int)(a r p:Addr):bp "pairs" (.ref p) (bp "row" (.ref r) (bp "way" (.ref a) (bp "worth" (.int w) [])))=mY w a r p:=by kernel_rfl
inductive tN(C:Addr)(vs:List V)(H:Hp)(Q:VK)(u3:XK):Prop
 |mk (x dx a r p:Addr) (w:Int) (_:vs=[.ref x, .int w, .ref a, .ref r, .ref p]) (_:H x=some (.ins C dx [])) (_:Q .cJ (upd H x (.ins C dx (mY w a r p)))):tN C vs H Q u3
inductive tO(C:Addr)(vs:List V)(H:Hp)(Q:VK)(u3:XK):Prop
 |mk (x dx a r p:Addr) (w:Int) (us:List V) (ps:List Pr) (_:vs=[.ref x]) (_:H x=some (.ins C dx (mY w a r p))) (_:H p=some (.lst us)) (_:fK H us ps) (_:ps≠[]) (_:∀H' k t,av H H'→H' k=some (.tup [.int (-w), .ref t])→H' t=some (.tup [.int (gG ps).1, .int (gG ps).2])→Q (.ref k) H'):tO C vs H Q u3
inductive Au(C CF:Addr)(vs:List V)(H:Hp)(Q:VK)(u3:XK):Prop
 |mk (x dx e b:Addr) (es bs:List Addr) (f:Nat→Nat→Option Int) (o p:Int) (n m:Nat) (w:Int) (pr:Addr) (us:List V) (ps:List (Nat×Nat)) (q0:Nat×Nat) (_:vs=[.ref x, .int w, .ref pr]) (_:qD H C x dx e b es bs f o p n m) (_:H pr=some (.lst us)) (_:fK H us (ps.map aP)) (_:∀q∈ps,q.1<n∧q.2<m) (_:(ps.filter fun q=>decide (dD f o p q.1 q.2=some w))[0]?=some q0) (_:n≤1000) (_:ps.length≤5000)
  (_:∀H' y dy wy rw iq,av H H'→H y=none→H dy=none→H wy=none→H rw=none→H' y=some (.ins CF dy (mY w wy rw pr))→H' dy=some (.own y)→H' wy=some (.lst iq)→fK H' iq ((eG f o p q0.1 q0.1 q0.2).map aP)→H' rw=some (.lst ((eG f o p q0.1 q0.1 q0.2).map fun q=>bB (dD f o p q.1 q.2)))→Q (.ref y) H'):Au C CF vs H Q u3
theorem BI{f:Nat→Nat→Option Int}{o p:Int}{n m:Nat}:∀k i j,i<n→j<m→∀q∈eG f o p k i j,q.1<n∧q.2<m
 |0,i,j,hi,hj,q,hq=>by
  have:q=(i,j):=by simpa[eG]using hq
  subst this;exact⟨hi,hj⟩
 |k+1,i,j,hi,hj,q,hq=>by
  by_cases h:gJ (Bq f o p i j)=true
  ·rw[eG,HB h]at hq;obtain⟨a,b,c⟩:=j7 h;have hl:=(kF f o p i j a b).resolve_right c;rcases List.mem_append.mp hq with z|z
   ·exact BI k _ _ (by lia) (by lia) q z
   ·have:q=(i,j):=by simpa using z
    subst this;exact⟨hi,hj⟩
  ·rw[gP h]at hq;have:q=(i,j):=by simpa using hq
   subst this;exact⟨hi,hj⟩
theorem yX{f:Nat→Nat→Option Int}{o p:Int}:∀k i j,(eG f o p k i j).length≤k+1
 |0,i,j=>by simp[eG]
 |k+1,i,j=>by
  by_cases h:gJ (Bq f o p i j)=true
  ·rw[eG,HB h,List.length_append];have:=yX (f:=f) (o:=o) (p:=p) k (cK f o p i j).1 (cK f o p i j).2;simp
   lia
  ·rw[gP h];simp
end QF
namespace L2
open PySem PySem.Spec PyProof.Rows PySem.W PySem.Calls
section
variable{X:Cx}
inductive Fp(K:Frag)(x:V)(y:V)(H:Hp)(Q:VK):Prop
 |mk (p q:Addr) (xs ys:List V) (_:x= .ref p) (_:y= .ref q) (_:DO K H p xs) (_:DO K H q ys) (_:xs.all rp=true) (_:ys.all rp=true) (_:Q (.bl (!uH xs ys)) H):Fp K x y H Q
theorem CV(K:Frag)(hu:X.A.units<cLine)(hK:X.K=K:=by rfl):rM X (compareOp .NotEq) (Fp K):=by
 subst hK;intro pins s σ H x y v u Q I rx ry h;obtain⟨p,q,xs,ys,rfl,rfl,hp,hq,f1,f2,k⟩:=h;cases rx;cases ry;obtain⟨its,r,pl,hz⟩:=I.tuple hp;obtain⟨dB,r2,Hl,Je⟩:=I.tuple hq;have he:=tF (A:=X.A.in1) (s:=s) r r2 f1 f2;obtain⟨⟨cls,dd,data,sl⟩,ho,hc,n,hd⟩:=id pl;obtain⟨⟨EC,rO,data2,mR⟩,sE,qc,n2,hd2⟩:=id Hl;simp only at hc hd qc hd2;subst hc hd qc hd2;refine richCompare_meets_room (op:= .NotEq) ⟨_,ho,rfl⟩ ⟨_,sE,rfl⟩ F.slot_tuple_ne F.entry_tuple_ne (F.args_tuple_ne_2 _ _) (SeqAt.tuple_neAt p q its.toArray dB.toArray n n2 dd rO sl mR _) ⟨ho,sE,he,?_⟩ hu;have e:(!((X_ (min its.toArray.size dB.toArray.size)).all (fun j=>wA (xs.getD j .cJ) (ys.getD j .cJ))&&its.toArray.size==dB.toArray.size))=!uH xs ys:=by
  rw[←kC,r.length,r2.length];simp
 rw[e];exact⟨(fun x=>nomatch x), .bl (!uH xs ys),H,I,rfl,k⟩
end
end L2
namespace QF
open PySem L2
theorem dh{p q:Pr}(h:a8 p=a8 q):p=q:=by
 simp only[a8,List.cons.injEq,Sum.inl.injEq,and_true]at h;exact Prod.ext h.1 h.2
theorem len_sub{α:Type}[DecidableEq α]:∀(l m:List α),l.Nodup→(∀x∈l,x∈m)→l.length≤m.length
 |[],m,_,_=>IM
 |x::r,m,hn,h=>by
  have DM:=List.nodup_cons.mp hn;have hx:=h x (IM);have:=len_sub r (m.erase x) DM.2 fun y hy=>(List.mem_erase_of_ne (fun e:y=x=>DM.1 (by rw[←e];exact hy))).mpr (h y (by simp[hy]))
  rw[List.length_erase_of_mem hx]at this;have:=List.length_pos_of_mem hx;simp
  lia
def Jv(E:Pr→Pr→Prop)(p:Pr):Pr→Pr→Prop:=fun a b=>E a b∨(a=p∧b=p)
def qG(E:Pr→Pr→Prop)(p q:Pr):Pr→Pr→Prop:=fun a b=>E a b∨((E a p∨E a q)∧(E b p∨E b q))
theorem CW{E:Pr→Pr→Prop}{p q a b:Pr}:qG E p q a b↔qG E q p a b:=by
 unfold qG;rw[or_comm (a:=E a p),or_comm (a:=E b p)]
structure oV(S:Addr→Prop)(H:Hp)(S':Addr→Prop)(H':Hp):Prop where
 grow:∀a,S' a→S a∨H a=none
 keep:∀a o,¬S a→H a=some o→H' a=some o
theorem oV.trans{S S' Qv:Addr→Prop}{H H' Qw:Hp}(a:oV S H S' H')(b:oV S' H' Qv Qw):oV S H Qv Qw:=by
 refine⟨fun x hx=>?_,fun x o hs hx=>b.keep x o (fun z=>?_) (a.keep x o hs hx)⟩
 ·rcases b.grow x hx with h|h
  ·exact a.grow x h
  ·by_cases hs:S x
   ·exact .inl hs
   ·right
    cases e:H x with
    |none=>rfl
    |some o=>rw[a.keep x o hs e]at h;cases h
 ·rcases a.grow x z with h|h
  ·exact hs h
  ·rw[hx]at h;cases h
theorem oV.same{S:Addr→Prop}{H H':Hp}(s:av H H'):oV S H S H':=⟨fun _ h=> .inl h,fun a o _ h=>s a o h⟩
theorem oV.put{S:Addr→Prop}{H:Hp}{a:Addr}{o:HO}(h:S a):oV S H S (upd H a o):=⟨fun _ h=> .inl h,fun b u hb e=>by rw[aj (fun z:b=a=>hb (by rw[z];exact h))];exact e⟩
structure OC(K:W.Frag)(C:Addr):Prop where
 cl:wg K C
 oW:bY K C "leads"
 members:bY K C "members"
def rA(dl dm:Addr):List (Str×V):=[("leads", .ref dl),("members", .ref dm)]
theorem ju(a b:Addr):(rA a b).lookup ("leads":Str)=some (V.ref a):=by kernel_rfl
theorem iZ(a b:Addr):(rA a b).lookup ("members":Str)=some (V.ref b):=by kernel_rfl
theorem OD(a b:Addr):bp "members" (.ref b) (bp "leads" (.ref a) [])=rA a b:=by kernel_rfl
theorem OE(a b:Addr):(rA a b).lookup ("has":Str)=none:=by kernel_rfl
theorem Fq(a b:Addr):(rA a b).lookup ("take_in":Str)=none:=by kernel_rfl
theorem BJ(a b:Addr):(rA a b).lookup ("unite":Str)=none:=by kernel_rfl
theorem LN(a b:Addr):(rA a b).lookup ("told":Str)=none:=by kernel_rfl
def LO(H:Hp)(v:Option V):Option Pr→Prop
 |none=>v=none
 |some l=>∃t,v=some (.ref t)∧H t=some (.tup (iE l))
def SQ(H:Hp)(S:Addr→Prop)(v:Option V):Option (List Pr)→Prop
 |none=>v=none
 |some ms=>∃a us,v=some (.ref a)∧H a=some (.lst us)∧fK H us ms∧S a
theorem LO.cA{H H':Hp}{v:Option V}{o:Option Pr}(h:LO H v o)(t:cO H H'):LO H' v o:=by
 cases o with
 |none=>exact h
 |some l=>obtain⟨a,h1,h2⟩:=h;exact⟨a,h1,t _ _ h2⟩
structure DC(H:Hp)(S:Addr→Prop)(dl dm:Addr)(kl km:List (List Key×V))(ld:Pr→Option Pr)(mm:Pr→Option (List Pr)):Prop where
 hl:H dl=some (.dT kl)
 hm:H dm=some (.dT km)
 sl:S dl
 sm:S dm
 ne:dl≠dm
 lv:∀p,LO H (bu kl (a8 p)) (ld p)
 mv:∀p,SQ H S (bu km (a8 p)) (mm p)
 inj:∀p q a,bu km (a8 p)=some (.ref a)→bu km (a8 q)=some (.ref a)→p=q
 key:∀kv∈km,∃p,kv.1=a8 p
 BK:(km.map (·.1)).Nodup
 ms:∀l ms,mm l=some ms→ms.Nodup∧∀p,p∈ms↔ld p=some l
 ml:∀p l,ld p=some l→∃ms,mm l=some ms
 self:∀l ms,mm l=some ms→ld l=some l
theorem DC.keep{H H':Hp}{S:Addr→Prop}{dl dm:Addr}{kl km:List (List Key×V)}{ld:Pr→Option Pr}{mm:Pr→Option (List Pr)}(d:DC H S dl dm kl km ld mm)(h:∀a o,S a→H a=some o→H' a=some o)(t:cO H H'):DC H' S dl dm kl km ld mm:=by
 refine⟨h _ _ d.sl d.hl,h _ _ d.sm d.hm,d.sl,d.sm,d.ne,fun p=>(d.lv p).cA t,fun p=>?_,d.inj,d.key,d.BK,d.ms,d.ml,d.self⟩;have:=d.mv p;cases e:mm p with
 |none=>rw[e]at this;exact this
 |some ms=>
  rw[e]at this;obtain⟨a,us,h1,h2,h3,h4⟩:=this;exact⟨a,us,h1,h _ _ h4 h2,h3.cA t,h4⟩
theorem DC.uB{H:Hp}{S:Addr→Prop}{dl dm:Addr}{kl km:List (List Key×V)}{ld:Pr→Option Pr}{mm:Pr→Option (List Pr)}(d:DC H S dl dm kl km ld mm){ms:List Pr}(hn:ms.Nodup)(h:∀p∈ms,∃l,ld p=some l):ms.length≤kl.length:=by
 have:=len_sub (ms.map a8) (kl.map (·.1)) (List.Pairwise.map _ (fun a b Fs z=>Fs (dh z)) hn) fun k hk=>by
  obtain⟨p,hp,rfl⟩:=Zt hk;obtain⟨l,hl⟩:=h p hp;have:=d.lv p;rw[hl]at this;obtain⟨t,h1,_⟩:=this;exact Be h1
 simpa using this
theorem DC.take{H H':Hp}{S:Addr→Prop}{dl dm a t:Addr}{kl km:List (List Key×V)}{ld:Pr→Option Pr}{mm:Pr→Option (List Pr)}{p:Pr}(d:DC H S dl dm kl km ld mm)(hn:ld p=none)(ht:H t=some (.tup (iE p)))(ha:H a=none)
  (h1:H' dl=some (.dT (putK kl (a8 p) (.ref t)))) (h2:H' dm=some (.dT (putK km (a8 p) (.ref a)))) (h3:H' a=some (.lst [.ref t])) (hk:∀b o,b≠dl→b≠dm→H b=some o→H' b=some o):
  DC H' (fun x=>S x∨x=a) dl dm (putK kl (a8 p) (.ref t)) (putK km (a8 p) (.ref a)) (fun q=>if q=p then some p else ld q) (fun q=>if q=p then some [p]else mm q):=by
 have T:cO H H':=fun b v hb=>hk b _ (fun z=>by rw[z,d.hl]at hb;cases hb) (fun z=>by rw[z,d.hm]at hb;cases hb) hb
 have U6:mm p=none:=by
  cases e:mm p with
  |none=>rfl
  |some ms=>have:=d.self p ms e;rw[hn]at this;cases this
 have Ft:bu km (a8 p)=none:=by have:=d.mv p;rw[U6]at this;exact this
 have OF:∀q b,bu km (a8 q)=some (.ref b)→b≠a:=fun q b hq z=>by
  have:=d.mv q;cases e:mm q with
  |none=>rw[e]at this;have:bu km (a8 q)=none:=this;rw[this]at hq;cases hq
  |some ms=>
   rw[e]at this;obtain⟨a',us,e1,e2,_⟩:=this;rw[hq]at e1;cases e1;rw[z,ha]at e2;cases e2
 refine⟨h1,h2, .inl d.sl, .inl d.sm,d.ne,fun q=>?_,fun q=>?_,fun q r b hq hr=>?_,fun kv Qx=>?_,?_,fun l ms hl=>?_,fun q l hq=>?_,fun l ms hl=>?_⟩
 ·rw[i7];by_cases e:q=p
  ·rw[HB (by rw[e]),HB e];exact⟨t,rfl,T _ _ ht⟩
  ·rw[Dt (fun z=>e (dh z)),Dt e];exact(d.lv q).cA T
 ·show SQ _ _ _ (if q=p then some [p]else mm q);rw[i7];by_cases e:q=p
  ·rw[HB (by rw[e]),HB e];exact⟨a,_,rfl,h3,fK.one (T _ _ ht), .inr rfl⟩
  ·rw[Dt (fun z=>e (dh z)),Dt e];have:=d.mv q;cases e2:mm q with
   |none=>rw[e2]at this;exact this
   |some ms=>
    rw[e2]at this;obtain⟨b,us,z1,z2,z3,z4⟩:=this;exact⟨b,us,z1,hk b _ (fun z=>by rw[z,d.hl]at z2;cases z2) (fun z=>by rw[z,d.hm]at z2;cases z2) z2,z3.cA T, .inl z4⟩
 ·rw[i7]at hq hr;by_cases e:q=p
  ·by_cases e2:r=p
   ·rw[e,e2]
   ·rw[HB (by rw[e])]at hq;rw[Dt (fun z=>e2 (dh z))]at hr;cases hq;exact absurd rfl (OF r _ hr)
  ·rw[Dt (fun z=>e (dh z))]at hq;by_cases e2:r=p
   ·rw[HB (by rw[e2])]at hr;cases hr;exact absurd rfl (OF q _ hq)
   ·rw[Dt (fun z=>e2 (dh z))]at hr;exact d.inj q r b hq hr
 ·rw[sU _ Ft]at Qx;rcases List.mem_append.mp Qx with z|z
  ·exact d.key kv z
  ·exact⟨p,by rw[List.mem_singleton.mp z]⟩
 ·rw[sU _ Ft,List.map_append];refine List.nodup_append.mpr ⟨d.BK,IM,fun x hx y hy e=>?_⟩;have hy:y=a8 p:=by simpa using hy
  rw[e,hy]at hx;exact yz Ft hx
 ·have hl:(if l=p then some [p]else mm l)=some ms:=hl;by_cases e:l=p
  ·rw[HB e]at hl;cases hl;refine⟨IM,fun q=>?_⟩;rw[List.mem_singleton];show q=p↔(if q=p then some p else ld q)=some l;by_cases e2:q=p
   ·rw[HB e2,e];simp[e2]
   ·rw[Dt e2];refine⟨fun z=>V' z e2,fun z=>?_⟩;obtain⟨ms,DD⟩:=d.ml q l z;rw[e,U6]at DD;cases DD
  ·rw[Dt e]at hl;obtain⟨z1,z2⟩:=d.ms l ms hl;refine⟨z1,fun q=>?_⟩;rw[z2];show ld q=some l↔(if q=p then some p else ld q)=some l;by_cases e2:q=p
   ·rw[HB e2,e2,hn];refine⟨fun z=>(by cases z),fun z=>V' (WK z).symm e⟩
   ·rw[Dt e2]
 ·have hq:(if q=p then some p else ld q)=some l:=hq;show ∃ms,(if l=p then some [p]else mm l)=some ms;by_cases e:l=p
  ·exact⟨[p],HB e⟩
  ·rw[Dt e];by_cases e2:q=p
   ·rw[HB e2]at hq;exact V' (WK hq).symm e
   ·rw[Dt e2]at hq;exact d.ml q l hq
 ·have hl:(if l=p then some [p]else mm l)=some ms:=hl;show(if l=p then some p else ld l)=some l;by_cases e:l=p
  ·rw[HB e,e]
  ·rw[Dt e]at hl⊢;exact d.self l ms hl
theorem BL{κ:Type}[DecidableEq κ]{k:κ}{v:V}:∀{kvs:List (κ×V)}{i:Nat},(kvs.map (·.1)).Nodup→kvs[i]?=some (k,v)→bu kvs k=some v
 |[],i,_,h=>by simp at h
 |p::r,0,_,h=>by
  have h:p=(k,v):=by simpa using h
  subst h;exact cF rfl
 |p::r,i+1,hn,h=>by
  have DM:=List.nodup_cons.mp (show(p.1::r.map (·.1)).Nodup from hn);have h:r[i]?=some (k,v):=by simpa using h
  rw[cw (fun e=>DM.1 (by rw[e];exact qV ⟨_,WI h,rfl⟩))];exact BL DM.2 h
theorem yY{κ:Type}[DecidableEq κ]{k:κ}{v:V}:∀{kvs:List (κ×V)},bu kvs k=some v→∃i:Nat,kvs[i]?=some (k,v)
 |[],h=>by cases h
 |p::r,h=>by
  by_cases e:p.1=k
  ·rw[cF e]at h;exact⟨0,by simp;exact Prod.ext e (WK h)⟩
  ·rw[cw e]at h;obtain⟨i,hi⟩:=yY h;exact⟨i+1,by simpa using hi⟩
theorem mi{κ:Type}[DecidableEq κ](k j:κ):∀kvs:List (κ×V),bu (i6 kvs k) j=if j=k then none else bu kvs j
 |[]=>by simp[i6,bu]
 |p::r=>by
  have ih:=mi k j r;unfold i6 at ih⊢;rw[List.filter_cons];by_cases e:p.1=k
  ·rw[Dt (by simpa using e),ih];by_cases e2:j=k
   ·rw[HB e2,HB e2]
   ·rw[Dt e2,Dt e2,cw (fun z=>e2 (z.symm.trans e))]
  ·rw[HB (by simpa using e)];by_cases e2:p.1=j
   ·rw[cF e2,Dt (fun z=>e (e2.trans z)),cF e2]
   ·rw[cw e2,ih,cw e2]
theorem DC.OG{H H':Hp}{S:Addr→Prop}{dl dm al tl:Addr}{kl uI km:List (List Key×V)}{ld:Pr→Option Pr}{mm:Pr→Option (List Pr)}{l g:Pr}{m1 m2:List Pr}{kG iq:List V}(d:DC H S dl dm kl km ld mm)(BM:l≠g)(h1:mm l=some m1)(h2:mm g=some m2)(BN:bu km (a8 l)=some (.ref al))(P1:fK H kG m1)(P2:fK H iq m2)(RG:H al=some (.lst kG))(yZ:H tl=some (.tup (iE l)))
  (SR:∀r,bu uI (a8 r)=if r∈m2 then some (.ref tl)else bu kl (a8 r)) (e1:H' dl=some (.dT uI)) (e2:H' dm=some (.dT (i6 km (a8 g)))) (e3:H' al=some (.lst (kG++iq))) (hk:∀b o,b≠dl→b≠dm→b≠al→H b=some o→H' b=some o):
  DC H' S dl dm uI (i6 km (a8 g)) (fun r=>if r∈m2 then some l else ld r) (fun r=>if r=g then none else if r=l then some (m1++m2)else mm r):=by
 have T:cO H H':=fun b v hb=>hk b _ (fun z=>by rw[z,d.hl]at hb;cases hb) (fun z=>by rw[z,d.hm]at hb;cases hb) (fun z=>by rw[z,RG]at hb;cases hb) hb
 obtain⟨n1,q1⟩:=d.ms l m1 h1;obtain⟨n2,q2⟩:=d.ms g m2 h2;refine⟨e1,e2,d.sl,d.sm,d.ne,fun r=>?_,fun r=>?_,fun p q a hp hq=>?_,fun kv Qx=>d.key kv (List.mem_filter.mp Qx).1,d.BK.sublist (List.filter_sublist.map _),fun x ms hx=>?_,fun p x hp=>?_,fun x ms hx=>?_⟩
 ·show LO H' _ (if r∈m2 then some l else ld r);rw[SR];by_cases e:r∈m2
  ·rw[HB e,HB e];exact⟨tl,rfl,T _ _ yZ⟩
  ·rw[Dt e,Dt e];exact(d.lv r).cA T
 ·show SQ H' S _ (if r=g then none else if r=l then some (m1++m2)else mm r);rw[mi];by_cases e:r=g
  ·rw[HB (by rw[e]),HB e];rfl
  ·rw[Dt (fun z=>e (dh z)),Dt e];by_cases e4:r=l
   ·rw[HB e4,e4,BN];have:=d.mv l;rw[h1]at this;obtain⟨a,us,z1,_,_,z4⟩:=this;rw[BN]at z1;cases z1;exact⟨al,_,rfl,e3,(P1.append P2).cA T,z4⟩
   ·rw[Dt e4];have:=d.mv r;cases e5:mm r with
    |none=>rw[e5]at this;exact this
    |some ms=>
     rw[e5]at this;obtain⟨a,us,z1,z2,z3,z4⟩:=this;exact⟨a,us,z1,hk a _ (fun z=>by rw[z,d.hl]at z2;cases z2) (fun z=>by rw[z,d.hm]at z2;cases z2) (fun z=>e4 (d.inj r l al (by rw[z1,z]) BN)) z2,z3.cA T,z4⟩
 ·rw[mi]at hp hq;by_cases e:p=g
  ·rw[HB (by rw[e])]at hp;cases hp
  ·by_cases e4:q=g
   ·rw[HB (by rw[e4])]at hq;cases hq
   ·rw[Dt (fun z=>e (dh z))]at hp;rw[Dt (fun z=>e4 (dh z))]at hq;exact d.inj p q a hp hq
 ·have hx:(if x=g then none else if x=l then some (m1++m2)else mm x)=some ms:=hx;by_cases e:x=g
  ·rw[HB e]at hx;cases hx
  ·rw[Dt e]at hx;by_cases e4:x=l
   ·rw[HB e4]at hx;cases hx;refine⟨List.nodup_append.mpr ⟨n1,n2,fun a ha b hb z=>?_⟩,fun p=>?_⟩
    ·have ha:=(q1 a).mp ha;have hb:=(q2 b).mp hb;rw[z,hb]at ha;exact BM (WK ha).symm
    ·rw[List.mem_append];show p∈m1∨p∈m2↔(if p∈m2 then some l else ld p)=some x;rw[e4];by_cases e5:p∈m2
     ·rw[HB e5];simp[e5]
     ·rw[Dt e5,←q1];simp[e5]
   ·rw[Dt e4]at hx;obtain⟨z1,z2⟩:=d.ms x ms hx;refine⟨z1,fun p=>?_⟩;rw[z2];show ld p=some x↔(if p∈m2 then some l else ld p)=some x;by_cases e5:p∈m2
    ·rw[HB e5,(q2 p).mp e5];exact⟨fun z=>V' (WK z).symm e,fun z=>V' (WK z).symm e4⟩
    ·rw[Dt e5]
 ·have hp:(if p∈m2 then some l else ld p)=some x:=hp;show ∃ms,(if x=g then none else if x=l then some (m1++m2)else mm x)=some ms;by_cases e5:p∈m2
  ·rw[HB e5]at hp;cases hp;exact⟨m1++m2,by rw[Dt BM,if_pos rfl]⟩
  ·rw[Dt e5]at hp;have hg:x≠g:=fun z=>e5 ((q2 p).mpr (by rw[hp,z]))
   by_cases e4:x=l
   ·exact⟨m1++m2,by rw[Dt hg,HB e4]⟩
   ·obtain⟨ms,DD⟩:=d.ml p x hp;exact⟨ms,by rw[Dt hg,Dt e4];exact DD⟩
 ·have hx:(if x=g then none else if x=l then some (m1++m2)else mm x)=some ms:=hx;show(if x∈m2 then some l else ld x)=some x;by_cases e:x=g
  ·rw[HB e]at hx;cases hx
  ·rw[Dt e]at hx;have U7:ld x=some x:=by
    by_cases e4:x=l
    ·rw[e4];exact d.self l m1 h1
    ·rw[Dt e4]at hx;exact d.self x ms hx
   have:x∉m2:=fun z=>by
    have:=(q2 x).mp z;rw[U7]at this;exact e (WK this)
   rw[Dt this,U7]
theorem LP{ld:Pr→Option Pr}{l g p q:Pr}{m2:List Pr}(BM:l≠g)(hp:ld p=some l)(hq:ld q=some g)(q2:∀r,r∈m2↔ld r=some g){E:Pr→Pr→Prop}(hE:∀a b,E a b↔∃x,ld a=some x∧ld b=some x)(a b:Pr):
  qG E p q a b↔∃x,(if a∈m2 then some l else ld a)=some x∧(if b∈m2 then some l else ld b)=some x:=by
 have A:∀c,(E c p∨E c q)↔(if c∈m2 then some l else ld c)=some l:=fun c=>by
  rw[hE,hE,hp,hq];by_cases e:c∈m2
  ·rw[HB e,(q2 c).mp e];simp
  ·rw[Dt e];have:ld c≠some g:=fun z=>e ((q2 c).mpr z)
   constructor
   ·rintro(⟨x,h1,h2⟩|⟨x,h1,h2⟩)
    ·cases h2;exact h1
    ·cases h2;exact V' h1 this
   ·exact fun z=> .inl ⟨l,z,rfl⟩
 unfold qG;rw[A,A,hE];constructor
 ·rintro(⟨x,h1,h2⟩|⟨h1,h2⟩)
  ·by_cases e:x=g
   ·subst e;exact⟨l,by rw[HB ((q2 a).mpr h1)],by rw[HB ((q2 b).mpr h2)]⟩
   ·exact⟨x,by rw[Dt (fun z=>e (by have:=(q2 a).mp z;rw[h1]at this;exact WK this))];exact h1,by rw[Dt (fun z=>e (by have:=(q2 b).mp z;rw[h2]at this;exact WK this))];exact h2⟩
  ·exact⟨l,h1,h2⟩
 ·rintro⟨x,h1,h2⟩;by_cases e:x=l
  ·subst e;exact .inr ⟨h1,h2⟩
  ·left
   refine⟨x,?_,?_⟩
   ·by_cases e2:a∈m2
    ·rw[HB e2]at h1;exact V' (WK h1).symm e
    ·rw[Dt e2]at h1;exact h1
   ·by_cases e2:b∈m2
    ·rw[HB e2]at h2;exact V' (WK h2).symm e
    ·rw[Dt e2]at h2;exact h2
def jP(H:Hp)(C g:Addr)(S:Addr→Prop)(E:Pr→Pr→Prop)(B:Nat):Prop:=
 ∃dg dl dm kl km ld mm,H g=some (.ins C dg (rA dl dm))∧¬S g∧DC H S dl dm kl km ld mm∧(∀a b,E a b↔∃l,ld a=some l∧ld b=some l)∧kl.length≤B∧km.length≤B
theorem jP.keep{H H':Hp}{C g:Addr}{S:Addr→Prop}{E:Pr→Pr→Prop}{B:Nat}(G:jP H C g S E B)(h:∀a o,S a→H a=some o→H' a=some o)(t:cO H H')(hg:∀o,H g=some o→H' g=some o):jP H' C g S E B:=by
 obtain⟨dg,dl,dm,kl,km,ld,mm,a1,a2,a3,a4⟩:=G;exact⟨dg,dl,dm,kl,km,ld,mm,hg _ a1,a2,a3.keep h t,a4⟩
theorem jP.same{H H':Hp}{C g:Addr}{S:Addr→Prop}{E:Pr→Pr→Prop}{B:Nat}(G:jP H C g S E B)(s:av H H'):jP H' C g S E B:=G.keep (fun a o _ h=>s a o h) (cO.same s) (fun o h=>s _ _ h)
theorem jP.iff{H:Hp}{C g:Addr}{S:Addr→Prop}{E E':Pr→Pr→Prop}{B B':Nat}(G:jP H C g S E B)(h:∀a b,E' a b↔E a b)(hB:B≤B'):jP H C g S E' B':=by
 obtain⟨dg,dl,dm,kl,km,ld,mm,a1,a2,a3,a4,a5,a6⟩:=G;exact⟨dg,dl,dm,kl,km,ld,mm,a1,a2,a3,fun a b=>(h a b).trans (a4 a b),by lia,by lia⟩
structure Told(E:Pr→Pr→Prop)(gs:List (List Pr)):Prop where
 qB:∀ps∈gs,ps.Pairwise fun p q=>ip p q=true
 ne:∀ps∈gs,ps≠[]
 cls:∀ps∈gs,∀a∈ps,∀b,b∈ps↔E a b
 all:∀a,E a a→∃ps∈gs,a∈ps
 apart:gs.Pairwise fun ps qs=>∀a∈ps,a∉qs
inductive tP(C:Addr)(vs:List V)(H:Hp)(Q:VK)(u3:XK):Prop
 |mk (x dx:Addr) (_:vs=[.ref x]) (_:H x=some (.ins C dx [])) (_:∀H' S,SameBut x H H'→(∀a,S a→H a=none)→jP H' C x S (fun _ _=>False) 0→Q .cJ H'):tP C vs H Q u3
inductive Av(C:Addr)(vs:List V)(H:Hp)(Q:VK)(u3:XK):Prop
 |mk (x t:Addr) (p:Pr) (S:Addr→Prop) (E:Pr→Pr→Prop) (B:Nat) (_:vs=[.ref x, .ref t]) (_:jP H C x S E B) (_:H t=some (.tup (iE p))) (_:∀b:Bool,(b=true↔E p p)→Q (.bl b) H):Av C vs H Q u3
inductive xg(C:Addr)(vs:List V)(H:Hp)(Q:VK)(u3:XK):Prop
 |mk (x t:Addr) (p:Pr) (S:Addr→Prop) (E:Pr→Pr→Prop) (B:Nat) (_:vs=[.ref x, .ref t]) (_:jP H C x S E B) (_:H t=some (.tup (iE p))) (_:B≤10000) (_:∀H' S',oV S H S' H'→jP H' C x S' (Jv E p) (B+1)→Q .cJ H'):xg C vs H Q u3
inductive tQ(C:Addr)(vs:List V)(H:Hp)(Q:VK)(u3:XK):Prop
 |mk (x t u:Addr) (p q:Pr) (S:Addr→Prop) (E:Pr→Pr→Prop) (B:Nat) (_:vs=[.ref x, .ref t, .ref u]) (_:jP H C x S E B) (_:H t=some (.tup (iE p))) (_:H u=some (.tup (iE q))) (_:E p p) (_:E q q) (_:B≤10000) (_:∀H',oV S H S H'→jP H' C x S (qG E p q) B→Q .cJ H'):tQ C vs H Q u3
inductive xh(C:Addr)(vs:List V)(H:Hp)(Q:VK)(u3:XK):Prop
 |mk (x:Addr) (S:Addr→Prop) (E:Pr→Pr→Prop) (B:Nat) (_:vs=[.ref x]) (_:jP H C x S E B) (_:B<10000) (_:∀H' r us gs,oV S H S H'→H r=none→H' r=some (.lst us)→f9 H' us gs→(∀(k:Nat) a,us[k]?=some (.ref a)→H a=none)→Told E gs→Q (.ref r) H'):xh C vs H Q u3
theorem Aw(g:Pr→Option Int)(o i:Int){as:List Pr}(cG:as≠[])(q:Pr)(bs:List Pr):vl g o i (as++q::bs)=vl g o i as-gp o i (lstP as) q+vl g o i (q::bs):=by
 rw[sG,oR g o i cG]
 lia
theorem Wy.app{g:Pr→Option Int}{as:List Pr}{q:Pr}{bs:List Pr}(a:Wy g as)(b:Wy g (q::bs))(s:zw (lstP as) q):Wy g (as++q::bs):=by
 refine⟨IM,fun x hx=>?_,Γ ⟨a.up,b.up,fun x hx y hy=>?_⟩⟩
 ·rcases List.mem_append.mp hx with h|h
  ·exact a.ok x h
  ·exact b.ok x h
 ·have h1:zw x q:=by
   rcases pw_lst a.up hx with e|e
   ·rw[e];exact s
   ·exact qy e s
  rcases List.mem_cons.mp hy with e|e
  ·rw[e];exact h1
  ·exact qy h1 ((List.pairwise_cons.mp b.up).1 y e)
theorem Wy.left{g:Pr→Option Int}{as bs:List Pr}(w:Wy g (as++bs))(h:as≠[]):Wy g as:=⟨h,fun x hx=>w.ok x (Zw hx),(Κ w.up).1⟩
theorem Wy.right{g:Pr→Option Int}{as bs:List Pr}(w:Wy g (as++bs))(h:bs≠[]):Wy g bs:=⟨h,fun x hx=>w.ok x (ZI hx),(Κ w.up).2.1⟩
section
variable(f:Nat→Nat→Option Int)(o p W:Int)
def BW(ps:List Pr):Prop:=Wy Y6 ps∧vl Y6 o p ps=W
def eZ:Prop:=∀ps,Wy Y6 ps→vl Y6 o p ps≤W
inductive fB:Pr→Pr→Prop
 |way {a b:Pr} (ps:List Pr) (_:BW f o p W ps) (_:a∈ps) (_:b∈ps):fB a b
 |tr {a b c:Pr} (_:fB a b) (_:fB b c):fB a c
def uJ(as:List Pr)(x y:Int):Int:=vl Y6 o p as-(o*(x-1-(lstP as).1)+p*(y-1-(lstP as).2))
def OH(q:Pr)(bs:List Pr)(x y:Int):Int:=vl Y6 o p (q::bs)-(o*(q.1-x)+p*(q.2-y))
def Over(x y:Int)(r:Pr):Prop:=∃as q bs,Wy Y6 as∧Wy Y6 (q::bs)∧(lstP as).1<x∧(lstP as).2<y∧x≤q.1∧y≤q.2∧vl Y6 o p (as++q::bs)=W∧r∈q::bs
end
section
variable{f:Nat→Nat→Option Int}{o p W:Int}
theorem fB.symm{a b:Pr}(h:fB f o p W a b):fB f o p W b a:=by
 induction h with
 |way ps h1 h2 h3=>exact .way ps h1 h3 h2
 |tr _ _ i1 i2=>exact .tr i2 i1
theorem fB.left{a b:Pr}(h:fB f o p W a b):fB f o p W a a:= .tr h h.symm
theorem fB.on{a b:Pr}(h:fB f o p W a b):∃ps,BW f o p W ps∧a∈ps:=by
 induction h with
 |way ps h1 h2 h3=>exact⟨ps,h1,h2⟩
 |tr _ _ i1 _=>exact i1
theorem nG{as:List Pr}{q:Pr}{bs:List Pr}(cG:as≠[])(x y:Int):vl Y6 o p (as++q::bs)=uJ f o p as x y+OH f o p q bs x y:=by
 rw[Aw _ _ _ cG];unfold uJ OH gp;have e1:q.1-(lstP as).1-1=(x-1-(lstP as).1)+(q.1-x):=by lia
 have e2:q.2-(lstP as).2-1=(y-1-(lstP as).2)+(q.2-y):=by lia
 rw[e1,e2,Int.mul_add,Int.mul_add]
 lia
theorem mj(T:eZ f o p W){as yc:List Pr}{q:Pr}{bs:List Pr}{x y:Int}(a:Wy Y6 as)(b:Wy Y6 (q::bs))(h3:x≤q.1)(h4:y≤q.2)(hW:vl Y6 o p (as++q::bs)=W)
  (a':Wy Y6 yc) (l1:(lstP yc).1<x) (l2:(lstP yc).2<y) (hb:uJ f o p as x y≤uJ f o p yc x y):BW f o p W (yc++q::bs):=by
 have w:=a'.app b ⟨by lia,by lia⟩;refine⟨w,?_⟩;have:=T _ w;rw[nG a'.ne x y]at this⊢;rw[nG a.ne x y]at hW
 lia
theorem xi{as:List Pr}{i j:Nat}(a:Wy Y6 as)(l1:(lstP as).1<(i:Int))(l2:(lstP as).2<(j:Int)):∃b,Bq f o p i j=some b∧uJ f o p as i j≤b:=by
 have m:=fX f o p i j;cases e:Bq f o p i j with
 |none=>rw[e]at m;exact V' ⟨as,a,l1,l2,rfl⟩ (m _)
 |some b=>rw[e]at m;exact⟨b,rfl,m.2 _ ⟨as,a,l1,l2,rfl⟩⟩
theorem xj{i j:Nat}{b:Int}(e:Bq f o p i j=some b):∃as,Wy Y6 as∧(lstP as).1<(i:Int)∧(lstP as).2<(j:Int)∧uJ f o p as i j=b:=by
 have m:=fX f o p i j;rw[e]at m;obtain⟨as,h1,h2,h3,h4⟩:=m.1;exact⟨as,h1,h2,h3,h4.symm⟩
theorem mn{i j:Nat}{b:Int}(e:dD f o p i j=some b):∃as,Wy Y6 as∧lstP as=aP (i,j)∧vl Y6 o p as=b:=by
 have m:=tH f o p i j;rw[e]at m;obtain⟨as,h1,h2,h3⟩:=m.1;exact⟨as,h1,h2,h3.symm⟩
theorem xk{as:List Pr}{i j:Nat}(a:Wy Y6 as)(l:lstP as=aP (i,j)):∃b,dD f o p i j=some b∧vl Y6 o p as≤b:=by
 have m:=tH f o p i j;cases e:dD f o p i j with
 |none=>rw[e]at m;exact V' ⟨as,a,l,rfl⟩ (m _)
 |some b=>rw[e]at m;exact⟨b,rfl,m.2 _ ⟨as,a,l,rfl⟩⟩
theorem Fu{i j:Nat}(e:dD f o p i j=some W):fB f o p W ZD (aP (i,j)):=by
 obtain⟨as,h1,h2,h3⟩:=mn e;have:aP (i,j)∈as:=by rw[←h2];exact cR h1.ne
 exact .way as ⟨h1,h3⟩ this this
theorem CY(T:eZ f o p W){i j:Nat}{r:Pr}(h:Over f o p W ((i+1:Nat):Int) ((j+1:Nat):Int) r)(e:dD f o p i j=Bq f o p (i+1) (j+1)):fB f o p W ZD r:=by
 obtain⟨as,q,bs,a,b,l1,l2,l3,l4,hW,hr⟩:=h;obtain⟨v,hv,hle⟩:=xi (o:=o) (p:=p) a l1 l2;rw[hv]at e;obtain⟨yc,a',k1,k2⟩:=mn e;have hb:uJ f o p yc ((i+1:Nat):Int) ((j+1:Nat):Int)=v:=by
  unfold uJ;rw[k1,k2];have e1:((i+1:Nat):Int)-1-(aP (i,j)).1=0:=by show((i+1:Nat):Int)-1-(i:Int)=0;lia
  have e2:((j+1:Nat):Int)-1-(aP (i,j)).2=0:=by show((j+1:Nat):Int)-1-(j:Int)=0;lia
  rw[e1,e2,Int.mul_zero,Int.mul_zero];lia
 have:=mj T a b l3 l4 hW a' (by rw[k1];simp[aP];lia) (by rw[k1];simp[aP];lia) (by rw[hb];exact hle);refine .way _ this (Zw ?_) (ZI hr);rw[←k1];exact cR a'.ne
theorem rB(T:eZ f o p W){i j x y:Nat}{r:Pr}{c:Int}(h:Over f o p W ((i+1:Nat):Int) ((j+1:Nat):Int) r)(hx:x≤i+1)(hy:y≤j+1)(hc:c=o*((i+1:Nat)-x:Int)+p*((j+1:Nat)-y:Int))(e:bA (Bq f o p x y) c=Bq f o p (i+1) (j+1)):Over f o p W (x:Int) (y:Int) r:=by
 obtain⟨as,q,bs,a,b,l1,l2,l3,l4,hW,hr⟩:=h;obtain⟨v,hv,hle⟩:=xi (o:=o) (p:=p) a l1 l2;rw[hv]at e;cases e2:Bq f o p x y with
 |none=>rw[e2]at e;cases e
 |some v2=>
  rw[e2]at e;have e:v2-c=v:=by simpa[bA]using e
  obtain⟨yc,a',k1,k2,k3⟩:=xj e2;have hb:uJ f o p yc ((i+1:Nat):Int) ((j+1:Nat):Int)=v:=by
   unfold uJ at k3⊢;have e1:((i+1:Nat):Int)-1-(lstP yc).1=((x:Int)-1-(lstP yc).1)+((i+1:Nat)-x:Int):=by lia
   have e2:((j+1:Nat):Int)-1-(lstP yc).2=((y:Int)-1-(lstP yc).2)+((j+1:Nat)-y:Int):=by lia
   rw[e1,e2,Int.mul_add,Int.mul_add]
   lia
  have:=mj T a b l3 l4 hW a' D9 (by lia) (by rw[hb];exact hle);exact⟨yc,q,bs,a',b,k1,k2,by lia,by lia,this.2,hr⟩
theorem HR(T:eZ f o p W){i j:Nat}(h:fB f o p W ZD (aP (i,j)))(g:gJ (Bq f o p i j)=true):Over f o p W (i:Int) (j:Int) (aP (i,j)):=by
 obtain⟨ws,⟨hw,hW⟩,hm⟩:=h.on;obtain⟨u,v,rfl⟩:=List.append_of_mem hm;cases e:Bq f o p i j with
 |none=>rw[e]at g;cases g
 |some b=>
  rw[e]at g;have g:0≤b:=by simpa[gJ]using g
  obtain⟨as,a,k1,k2,k3⟩:=xj e;have hr:Wy Y6 (aP (i,j)::v):=hw.right Mi;have ws:=a.app hr ⟨k1,k2⟩;have hle:=T _ ws;have cv:=nG (f:=f) (o:=o) (p:=p) (q:=aP (i,j)) (bs:=v) a.ne (i:Int) (j:Int);have ha:OH f o p ZD v (i:Int) (j:Int)=vl Y6 o p (aP (i,j)::v):=by
   unfold OH;have e1:(aP (i,j)).1-(i:Int)=0:=by simp[aP]
   have e2:(aP (i,j)).2-(j:Int)=0:=by simp[aP]
   rw[e1,e2,Int.mul_zero,Int.mul_zero];lia
  have aam:W≤b+vl Y6 o p (aP (i,j)::v):=by
   by_cases hu:u=[]
   ·subst hu;simp only[List.nil_append]at hW
    lia
   ·have cu:=nG (f:=f) (o:=o) (p:=p) (q:=aP (i,j)) (bs:=v) hu (i:Int) (j:Int);have Qy:Wy Y6 u:=hw.left hu;have hs:zw (lstP u) (aP (i,j)):=(Κ hw.up).2.2 _ (cR hu) _ (IM);obtain⟨b2,xl,aak⟩:=xi (o:=o) (p:=p) Qy (i:=i) (j:=j) hs.1 hs.2;rw[e]at xl;cases xl
    lia
  exact⟨as,aP (i,j),v,a,hr,k1,k2,by simp[aP],by simp[aP],by lia,IM⟩
theorem over_over(T:eZ f o p W){x y:Int}{r r':Pr}(h:Over f o p W x y r)(h':Over f o p W x y r'):fB f o p W r r':=by
 obtain⟨as,q,bs,a,b,l1,l2,l3,l4,hW,hr⟩:=h;obtain⟨yc,q',XA,a',b',k1,k2,k3,k4,U8,LQ⟩:=h';have w1:BW f o p W (as++q::bs):=⟨a.app b ⟨by lia,by lia⟩,hW⟩
 have w2:BW f o p W (yc++q'::XA):=⟨a'.app b' ⟨by lia,by lia⟩,U8⟩
 by_cases hb:uJ f o p as x y≤uJ f o p yc x y
 ·have:=mj T a b l3 l4 hW a' k1 k2 hb;exact .tr (.way (b:=lstP yc) _ this (ZI hr) (Zw (cR a'.ne))) (.way _ w2 (Zw (cR a'.ne)) (ZI LQ))
 ·have:=mj T a' b' k3 k4 U8 a l1 l2 D9;exact .tr (.way (b:=lstP as) _ w1 (ZI hr) (Zw (cR a.ne))) (.way _ this (Zw (cR a.ne)) (ZI LQ))
theorem between(T:eZ f o p W){u v:List Pr}{q r:Nat×Nat}(w:BW f o p W (u++aP q::aP r::v)):
  (∀x y:Nat,q.1<x→q.2<y→x≤r.1→y≤r.2→Bq f o p x y=some (uJ f o p (u++[aP q]) x y))∧dD f o p q.1 q.2=some (vl Y6 o p (u++[aP q]))∧0≤uJ f o p (u++[aP q]) r.1 r.2:=by
 obtain⟨w,hW⟩:=w;have e:u++aP q::aP r::v=(u++[aP q])++aP r::v:=IM;rw[e]at w hW;have hl:Wy Y6 (u++[aP q]):=w.left Mi;have hr:Wy Y6 (aP r::v):=w.right Mi;have ls:lstP (u++[aP q])=aP q:=dI;have vp:zw (aP q) (aP r):=by
  have:=(Κ w.up).2.2 _ (cR hl.ne) (aP r) (IM);rw[ls]at this;exact this
 refine⟨fun x y h1 h2 h3 h4=>?_,?_,?_⟩
 ·have c1:(lstP (u++[aP q])).1<(x:Int):=by rw[ls];simp[aP];lia
  have c2:(lstP (u++[aP q])).2<(y:Int):=by rw[ls];simp[aP];lia
  obtain⟨b,hb,hle⟩:=xi (o:=o) (p:=p) hl c1 c2;rw[hb]
  congr 1
  obtain⟨as,a,k1,k2,k3⟩:=xj hb;have wa:=a.app hr ⟨by simp[aP];lia,by simp[aP];lia⟩;have:=T _ wa;rw[nG a.ne (x:Int) (y:Int)]at this;rw[nG hl.ne (x:Int) (y:Int)]at hW
  lia
 ·obtain⟨b,hb,hle⟩:=xk (o:=o) (p:=p) hl (i:=q.1) (j:=q.2) ls;rw[hb]
  congr 1
  obtain⟨as,a,k1,k2⟩:=mn hb;have wa:=a.app hr (by rw[k1];exact vp);have:=T _ wa;rw[Aw _ _ _ a.ne,k1,show aP (q.1,q.2)=aP q from rfl]at this;rw[Aw _ _ _ hl.ne,ls]at hW
  lia
 ·have:=T _ hr;rw[nG hl.ne (r.1:Int) (r.2:Int)]at hW;unfold OH at hW;have e1:(aP r).1-(r.1:Int)=0:=by simp[aP]
  have e2:(aP r).2-(r.2:Int)=0:=by simp[aP]
  rw[e1,e2,Int.mul_zero,Int.mul_zero]at hW
  lia
end
abbrev GS:=(Pr→Pr→Prop)×(Pr→Option Pr)
def y4(s:GS)(c r:Pr):GS:=
 match s.2 c with
 |some r0=>(qG s.1 r0 r,s.2)
 |none=>(s.1,fun x=>if x=c then some r else s.2 x)
section
variable(f:Nat→Nat→Option Int)(o p W:Int)
def Jw(i j:Nat)(s:GS)(r:Pr):GS:=(if dD f o p i j=Bq f o p (i+1) (j+1)then qG (Jv s.1 ZD) (aP (i,j)) r else s.1,s.2)
def LR(i j:Nat)(s:GS)(r:Pr):GS:=(bq f o p i j).foldl (fun s c=>y4 s c r) (Jw f o p i j s r)
def HS(i j:Nat)(s:GS):GS:=(if dD f o p i j=some W then Jv s.1 ZD else s.1,s.2)
def DE(i j:Nat)(s:GS):GS:=
 match s.2 (aP (i+1,j+1))with
 |some r=>LR f o p i j (HS f o p W i j s) r
 |none=>HS f o p W i j s
open Classical in
noncomputable def zB(i j:Nat)(s:GS):GS:=if (DE f o p W i j s).1 ZD (aP (i,j))∧gJ (Bq f o p i j)=true then y4 (DE f o p W i j s) (aP (i,j)) (aP (i,j))else DE f o p W i j s
structure ig(s:GS):Prop where
 sy:∀a b,s.1 a b→s.1 b a
 tr:∀a b c,s.1 a b→s.1 b c→s.1 a c
 hg:∀a b,s.1 a b→fB f o p W a b
 mr:∀c r,s.2 c=some r→s.1 r r∧∃i j:Nat,c=aP (i,j)∧Over f o p W (i:Int) (j:Int) r
end
structure Gw(s s':GS)(N:Pr→Prop)(M:Pr→Prop):Prop where
 e:∀a b,s.1 a b→s'.1 a b
 n:∀a,s'.1 a a→s.1 a a∨N a
 m:∀c r,s.2 c=some r→s'.2 c=some r
 k:∀c r,s'.2 c=some r→s.2 c=some r∨M c
theorem Gw.refl{s:GS}{N M:Pr→Prop}:Gw s s N M:=⟨fun _ _ h=>h,fun _ h=> .inl h,fun _ _ h=>h,fun _ _ h=> .inl h⟩
theorem Gw.trans{s s' wk:GS}{N M:Pr→Prop}(a:Gw s s' N M)(b:Gw s' wk N M):Gw s wk N M:=
 ⟨fun x y h=>b.e x y (a.e x y h),fun x h=>(b.n x h).elim (a.n x) .inr,fun c r h=>b.m c r (a.m c r h),fun c r h=>(b.k c r h).elim (a.k c r) .inr⟩
theorem Gw.wide{s s':GS}{N M N' M':Pr→Prop}(a:Gw s s' N M)(hN:∀x,N x→N' x)(hM:∀x,M x→M' x):Gw s s' N' M':=⟨a.e,fun x h=>(a.n x h).imp id (hN x),a.m,fun c r h=>(a.k c r h).imp id (hM c)⟩
section
variable{f:Nat→Nat→Option Int}{o p W:Int}{s:GS}
theorem ig.U9(k:ig f o p W s){a b:Pr}(ha:s.1 a a)(hb:s.1 b b)(h:fB f o p W a b):ig f o p W (qG s.1 a b,s.2):=by
 have hc:∀c,s.1 c a∨s.1 c b→fB f o p W c a:=fun c h'=>h'.elim (k.hg c a) fun z=> .tr (k.hg c b z) h.symm
 refine⟨fun x y h=>?_,fun x y z h1 h2=>?_,fun x y h=>?_,fun c r h=>⟨.inl (k.mr c r h).1,(k.mr c r h).2⟩⟩
 ·exact h.imp (k.sy x y) fun h=>⟨h.2,h.1⟩
 ·rcases h1 with h1|⟨h1,Jg⟩
  ·rcases h2 with h2|⟨h2,Jh⟩
   ·exact .inl (k.tr _ _ _ h1 h2)
   ·exact .inr ⟨h2.imp (k.tr _ _ _ h1) (k.tr _ _ _ h1),Jh⟩
  ·rcases h2 with h2|⟨h2,Jh⟩
   ·exact .inr ⟨h1,Jg.imp (k.tr _ _ _ (k.sy _ _ h2)) (k.tr _ _ _ (k.sy _ _ h2))⟩
   ·exact .inr ⟨h1,Jh⟩
 ·rcases h with h|⟨h1,h2⟩
  ·exact k.hg x y h
  ·exact .tr (hc x h1) (hc y h2).symm
theorem ig.take(k:ig f o p W s){a:Pr}(h:fB f o p W a a):ig f o p W (Jv s.1 a,s.2):=by
 refine⟨fun x y h=>?_,fun x y z h1 h2=>?_,fun x y h'=>?_,fun c r h=>⟨.inl (k.mr c r h).1,(k.mr c r h).2⟩⟩
 ·exact h.imp (k.sy x y) fun h=>⟨h.2,h.1⟩
 ·rcases h1 with h1|⟨h1,Jg⟩
  ·rcases h2 with h2|⟨h2,Jh⟩
   ·exact .inl (k.tr _ _ _ h1 h2)
   ·subst h2 Jh;exact .inl h1
  ·subst h1 Jg;exact h2
 ·rcases h' with h'|⟨h1,h2⟩
  ·exact k.hg x y h'
  ·subst h1 h2;exact h
theorem Fv(sy:∀a b,s.1 a b→s.1 b a)(tr:∀a b c,s.1 a b→s.1 b c→s.1 a c){a b:Pr}:Gw s (qG s.1 a b,s.2) (fun _=>False) (fun _=>False):=by
 refine⟨fun _ _ h=> .inl h,fun x h=> .inl ?_,fun _ _ h=>h,fun _ _ h=> .inl h⟩;rcases h with h|⟨h,_⟩
 ·exact h
 ·exact h.elim (fun z=>tr _ _ _ z (sy _ _ z)) fun z=>tr _ _ _ z (sy _ _ z)
theorem ig.mark(T:eZ f o p W)(k:ig f o p W s){i j:Nat}{r:Pr}(hr:s.1 r r)(ov:Over f o p W (i:Int) (j:Int) r):ig f o p W (y4 s ZD r):=by
 unfold y4;cases e:s.2 ZD with
 |some r0=>
  obtain⟨h1,i2,j2,h2,h3⟩:=k.mr _ _ e;have h2:(i:Int)=i2∧(j:Int)=j2:=by simpa[aP]using h2
  rw[←h2.1,←h2.2]at h3;exact k.U9 h1 hr (over_over T h3 ov)
 |none=>
  refine⟨k.sy,k.tr,k.hg,fun c r' h=>?_⟩;have h:(if c=aP (i,j)then some r else s.2 c)=some r':=h;by_cases e2:c=aP (i,j)
  ·rw[HB e2]at h;cases h;exact⟨hr,i,j,e2,ov⟩
  ·rw[Dt e2]at h;exact k.mr c r' h
theorem Jx(k:ig f o p W s){c r:Pr}:Gw s (y4 s c r) (fun _=>False) (·=c):=by
 unfold y4;cases e:s.2 c with
 |some r0=>exact(Fv k.sy k.tr).wide (fun _ h=>h) fun _ h=>h.elim
 |none=>
  refine⟨fun _ _ h=>h,fun _ h=> .inl h,fun c' r' h=>?_,fun c' r' h=>?_⟩
  ·show(if c'=c then some r else s.2 c')=some r';rw[Dt (fun z=>by rw[z,e]at h;cases h)];exact h
  ·have h:(if c'=c then some r else s.2 c')=some r':=h;by_cases e2:c'=c
   ·exact .inr e2
   ·rw[Dt e2]at h;exact .inl h
theorem Fw(k:ig f o p W s){c r:Pr}(hr:s.1 r r):∃r',(y4 s c r).2 c=some r'∧(y4 s c r).1 r r':=by
 unfold y4;cases e:s.2 c with
 |some r0=>exact⟨r0,e, .inr ⟨.inr hr, .inl (k.mr _ _ e).1⟩⟩
 |none=>exact⟨r,IM,hr⟩
theorem tR(T:eZ f o p W){r:Pr}:∀(cs:List Pr)(s:GS),ig f o p W s→s.1 r r→(∀c∈cs,∃i j:Nat,c=aP (i,j)∧Over f o p W (i:Int) (j:Int) r)→
  ig f o p W (cs.foldl (fun s c=>y4 s c r) s)∧Gw s (cs.foldl (fun s c=>y4 s c r) s) (fun _=>False) (·∈cs)∧∀c∈cs,∃r',(cs.foldl (fun s c=>y4 s c r) s).2 c=some r'∧(cs.foldl (fun s c=>y4 s c r) s).1 r r'
 |[],s,k,_,_=>⟨k, .refl,fun c h=>by cases h⟩
 |c::cs,s,k,hr,h=>by
  obtain⟨i,j,rfl,ov⟩:=h c (IM);have k1:=k.mark T hr ov;have g1:=Jx k (c:=aP (i,j)) (r:=r);obtain⟨r',m1,m2⟩:=Fw k (c:=aP (i,j)) hr;obtain⟨a1,a2,a3⟩:=tR T cs _ k1 (g1.e _ _ hr) fun c hc=>h c (by simp[hc])
  refine⟨a1,(g1.wide (fun _ h=>h) fun x hx=>?_).trans (a2.wide (fun _ h=>h) fun x hx=>?_),fun c hc=>?_⟩
  ·show x∈_::_;rw[hx];simp
  ·exact ZL hx
  ·rcases List.mem_cons.mp hc with rfl|hc
   ·exact⟨r',a2.m _ _ m1,a2.e _ _ m2⟩
   ·exact a3 c hc
theorem rC(T:eZ f o p W){i j:Nat}{r:Pr}(h:Over f o p W ((i+1:Nat):Int) ((j+1:Nat):Int) r):∀c∈bq f o p i j,∃x y:Nat,c=aP (x,y)∧Over f o p W (x:Int) (y:Int) r:=by
 intro c hc;unfold bq at hc;rcases List.mem_append.mp hc with hc|hc
 ·split at hc
  ·rename_i e
   have:c=aP (i,j+1):=by simpa[aP]using hc
   refine⟨i,j+1,this,rB T h D9 (by lia) ?_ e⟩;have e1:((i+1:Nat):Int)-(i:Int)=1:=by lia
   have e2:((j+1:Nat):Int)-((j+1:Nat):Int)=0:=by lia
   rw[e1,e2];lia
  ·cases hc
 ·split at hc
  ·rename_i e
   have:c=aP (i+1,j):=by simpa[aP]using hc
   refine⟨i+1,j,this,rB T h D9 (by lia) ?_ e⟩;have e1:((i+1:Nat):Int)-((i+1:Nat):Int)=0:=by lia
   have e2:((j+1:Nat):Int)-(j:Int)=1:=by lia
   rw[e1,e2];lia
  ·cases hc
theorem Fx(T:eZ f o p W)(k:ig f o p W s){i j:Nat}{r:Pr}(hr:s.1 r r)(ov:Over f o p W ((i+1:Nat):Int) ((j+1:Nat):Int) r):
  ig f o p W (Jw f o p i j s r)∧Gw s (Jw f o p i j s r) (·=aP (i,j)) (·∈bq f o p i j)∧(dD f o p i j=Bq f o p (i+1) (j+1)→(Jw f o p i j s r).1 ZD r):=by
 unfold Jw;by_cases e:dD f o p i j=Bq f o p (i+1) (j+1)
 ·rw[HB e];have h:=CY T ov e;have k1:=k.take h.left;have k2:=k1.U9 (a:=aP (i,j)) (b:=r) (.inr ⟨rfl,rfl⟩) (.inl hr) h;refine⟨k2,⟨fun a b h=> .inl (.inl h),fun a h=>?_,fun _ _ h=>h,fun _ _ h=> .inl h⟩,fun _=> .inr ⟨.inl (.inr ⟨rfl,rfl⟩), .inr (.inl hr)⟩⟩;rcases(Fv (s:=(Jv s.1 ZD,s.2)) k1.sy k1.tr).n a h with h|h
  ·exact h.imp id And.left
  ·exact h.elim
 ·rw[Dt e];exact⟨⟨k.sy,k.tr,k.hg,k.mr⟩, .refl,fun z=>V' z e⟩
theorem OI(T:eZ f o p W)(k:ig f o p W s){i j:Nat}{r:Pr}(hr:s.1 r r)(ov:Over f o p W ((i+1:Nat):Int) ((j+1:Nat):Int) r):
  ig f o p W (LR f o p i j s r)∧Gw s (LR f o p i j s r) (·=aP (i,j)) (·∈bq f o p i j)∧(dD f o p i j=Bq f o p (i+1) (j+1)→(LR f o p i j s r).1 ZD r)∧∀c∈bq f o p i j,∃r',(LR f o p i j s r).2 c=some r'∧(LR f o p i j s r).1 r r':=by
 obtain⟨b1,b2,b3⟩:=Fx T k hr ov;obtain⟨a1,a2,a3⟩:=tR T (bq f o p i j) _ b1 (b2.e _ _ hr) (rC T ov);exact⟨a1,b2.trans (a2.wide (fun _ h=>h.elim) fun _ h=>h),fun e=>a2.e _ _ (b3 e),a3⟩
theorem Fy(k:ig f o p W s)(i j:Nat):ig f o p W (HS f o p W i j s)∧Gw s (HS f o p W i j s) (·=aP (i,j)) (fun _=>False)∧(dD f o p i j=some W→(HS f o p W i j s).1 ZD (aP (i,j))):=by
 unfold HS;by_cases e:dD f o p i j=some W
 ·rw[HB e];exact⟨k.take (Fu e),⟨fun _ _ h=> .inl h,fun _ h=>h.imp id And.left,fun _ _ h=>h,fun _ _ h=> .inl h⟩,fun _=> .inr ⟨rfl,rfl⟩⟩
 ·rw[Dt e];exact⟨⟨k.sy,k.tr,k.hg,k.mr⟩, .refl,fun z=>V' z e⟩
def LS(f:Nat→Nat→Option Int)(o p:Int)(i j:Nat)(c:Pr):Prop:=c∈bq f o p i j∨c=aP (i,j)
theorem Fz(T:eZ f o p W)(k:ig f o p W s)(i j:Nat):ig f o p W (DE f o p W i j s)∧Gw s (DE f o p W i j s) (·=aP (i,j)) (LS f o p i j)∧(dD f o p i j=some W→(DE f o p W i j s).1 ZD (aP (i,j)))∧∀r,s.2 (aP (i+1,j+1))=some r→
  (dD f o p i j=Bq f o p (i+1) (j+1)→(DE f o p W i j s).1 ZD r)∧∀c∈bq f o p i j,∃r',(DE f o p W i j s).2 c=some r'∧(DE f o p W i j s).1 r r':=by
 obtain⟨k1,g1,e1⟩:=Fy k i j;unfold DE;cases e:s.2 (aP (i+1,j+1))with
 |none=>exact⟨k1,g1.wide (fun _ h=>h) fun _ h=>h.elim,e1,fun r h=>by cases h⟩
 |some r=>
  obtain⟨h1,i2,j2,h2,h3⟩:=k.mr _ _ e;have h2:((i+1:Nat):Int)=i2∧((j+1:Nat):Int)=j2:=by simpa[aP]using h2
  rw[←h2.1,←h2.2]at h3;obtain⟨a1,a2,a3,a4⟩:=OI T k1 (g1.e _ _ h1) h3;refine⟨a1,(g1.wide (fun _ h=>h) fun _ h=>h.elim).trans (a2.wide (fun _ h=>h) fun _ h=> .inl h),fun z=>a2.e _ _ (e1 z),fun r' h=>?_⟩;cases h;exact⟨a3,a4⟩
theorem OJ(T:eZ f o p W)(k:ig f o p W s)(i j:Nat):ig f o p W (zB f o p W i j s)∧Gw s (zB f o p W i j s) (·=aP (i,j)) (LS f o p i j)∧(dD f o p i j=some W→(zB f o p W i j s).1 ZD (aP (i,j)))∧(∀r,s.2 (aP (i+1,j+1))=some r→
  (dD f o p i j=Bq f o p (i+1) (j+1)→(zB f o p W i j s).1 ZD r)∧∀c∈bq f o p i j,∃r',(zB f o p W i j s).2 c=some r'∧(zB f o p W i j s).1 r r')∧
  ((zB f o p W i j s).1 ZD (aP (i,j))→gJ (Bq f o p i j)=true→∃r,(zB f o p W i j s).2 (aP (i,j))=some r∧(zB f o p W i j s).1 ZD r):=by
 obtain⟨k1,g1,e1,o1⟩:=Fz T k i j;unfold zB;split
 ·rename_i h
  have k2:=k1.mark T h.1 (HR T (k1.hg _ _ h.1) h.2);have g2:=Jx k1 (c:=aP (i,j)) (r:=aP (i,j));refine⟨k2,g1.trans (g2.wide (fun _ h=>h.elim) fun _ h=> .inr h),fun z=>g2.e _ _ (e1 z),fun r hr=>?_,fun _ _=>Fw k1 h.1⟩;obtain⟨a1,a2⟩:=o1 r hr;refine⟨fun z=>g2.e _ _ (a1 z),fun c hc=>?_⟩;obtain⟨r',b1,b2⟩:=a2 c hc;exact⟨r',g2.m _ _ b1,g2.e _ _ b2⟩
 ·rename_i h
  exact⟨k1,g1,e1,o1,fun h1 h2=>V' ⟨h1,h2⟩ h⟩
end
structure Vd(f:Nat→Nat→Option Int)(o p W:Int)(V:Nat→Nat→Prop)(s:GS):Prop where
 ok:ig f o p W s
 XB:∀a,s.1 a a→∃i j:Nat,a=aP (i,j)∧V i j
 en:∀i j,V i j→dD f o p i j=some W→s.1 ZD (aP (i,j))
 on:∀i j,V i j→s.1 ZD (aP (i,j))→gJ (Bq f o p i j)=true→∃r,s.2 (aP (i,j))=some r∧s.1 ZD r
 ov:∀i j r,V i j→s.2 (aP (i+1,j+1))=some r→(dD f o p i j=Bq f o p (i+1) (j+1)→s.1 ZD r)∧∀c∈bq f o p i j,∃r',s.2 c=some r'∧s.1 r r'
theorem iL{a b c d:Nat}(h:aP (a,b)=aP (c,d)):a=c∧b=d:=by
 have h:(a:Int)=c∧(b:Int)=d:=by simpa[aP]using h
 lia
theorem FA{f:Nat→Nat→Option Int}{o p:Int}{i j a b:Nat}(h:LS f o p i j (aP (a+1,b+1))):(a+1=i∧b+1=j)∨(a+1=i∧b=j)∨(a=i∧b+1=j):=by
 rcases h with h|h
 ·unfold bq at h;rcases List.mem_append.mp h with h|h
  ·split at h
   ·have:aP (a+1,b+1)=aP (i,j+1):=by simpa[aP]using h
    have:=iL this
    lia
   ·cases h
  ·split at h
   ·have:aP (a+1,b+1)=aP (i+1,j):=by simpa[aP]using h
    have:=iL this
    lia
   ·cases h
 ·have:=iL h
  lia
def Vb(n m i j:Nat)(a b:Nat):Prop:=a<n∧b<m∧(i<a∨(i=a∧j≤b))
theorem Vd.start(f:Nat→Nat→Option Int)(o p W:Int)(n m:Nat):Vd f o p W (Vb n m n 0) (fun _ _=>False,fun _=>none):=by
 have no:∀a b,¬Vb n m n 0 a b:=fun a b ⟨h1,_,h2⟩=>by lia
 exact⟨⟨fun _ _ h=>h.elim,fun _ _ _ h=>h.elim,fun _ _ h=>h.elim,fun _ _ h=>(by cases h)⟩,fun _ h=>h.elim,fun i j h=>V' h (no i j),fun i j h=>V' h (no i j),fun i j r h=>V' h (no i j)⟩
theorem Vd.turn{f:Nat→Nat→Option Int}{o p W:Int}{n m i:Nat}{s:GS}(v:Vd f o p W (Vb n m (i+1) 0) s):Vd f o p W (Vb n m i m) s:=by
 have e:Vb n m (i+1) 0=Vb n m i m:=by
  funext a b
  simp only[Vb,eq_iff_iff]
  lia
 rw[←e];exact v
theorem Vd.next{f:Nat→Nat→Option Int}{o p W:Int}{n m i j:Nat}{s:GS}(T:eZ f o p W)(hi:i<n)(hj:j<m)(v:Vd f o p W (Vb n m i (j+1)) s):Vd f o p W (Vb n m i j) (zB f o p W i j s):=by
 obtain⟨k,g,e,ov,on⟩:=OJ T v.ok i j;have cut:∀a b,Vb n m i j a b→(a=i∧b=j)∨Vb n m i (j+1) a b:=fun a b h=>by
  unfold Vb at h⊢
  lia
 have old:∀a b r,Vb n m i j a b→(zB f o p W i j s).2 (aP (a+1,b+1))=some r→s.2 (aP (a+1,b+1))=some r:=fun a b r h hr=>by
  rcases g.k _ _ hr with z|z
  ·exact z
  ·have:=FA z;unfold Vb at h
   lia
 refine⟨k,fun a ha=>?_,fun a b h he=>?_,fun a b h h1 h2=>?_,fun a b r h hr=>?_⟩
 ·rcases g.n a ha with z|z
  ·obtain⟨x,y,h1,h2⟩:=v.XB a z;exact⟨x,y,h1,by unfold Vb at h2⊢;lia⟩
  ·exact⟨i,j,z,by unfold Vb;lia⟩
 ·rcases cut a b h with⟨rfl,rfl⟩|h'
  ·exact e he
  ·exact g.e _ _ (v.en a b h' he)
 ·rcases cut a b h with⟨rfl,rfl⟩|h'
  ·exact on h1 h2
  ·have hs:s.1 (aP (a,b)) (aP (a,b)):=by
    rcases g.n _ h1 with z|z
    ·exact z
    ·have:=iL z;unfold Vb at h'
     lia
   obtain⟨r,z1,z2⟩:=v.on a b h' hs h2;exact⟨r,g.m _ _ z1,g.e _ _ z2⟩
 ·have LQ:=old a b r h hr;rcases cut a b h with⟨rfl,rfl⟩|h'
  ·exact ov r LQ
  ·obtain⟨z1,z2⟩:=v.ov a b r h' LQ;refine⟨fun z=>g.e _ _ (z1 z),fun c hc=>?_⟩;obtain⟨r',y1,y2⟩:=z2 c hc;exact⟨r',g.m _ _ y1,g.e _ _ y2⟩
theorem jQ{f:Nat→Nat→Option Int}{n m:Nat}(t:Dy f n m){ps:List Pr}(w:Wy Y6 ps){a:Pr}(h:a∈ps):∃i j:Nat,a=aP (i,j)∧i<n∧j<m:=by
 have hs:=w.ok a h;obtain⟨i,j,rfl⟩:=Bs hs;rw[qz]at hs;obtain⟨h1,h2⟩:=t i j hs;exact⟨i,j,rfl,h1,h2⟩
theorem Vd.step{f:Nat→Nat→Option Int}{o p W:Int}{n m:Nat}{s:GS}(T:eZ f o p W)(v:Vd f o p W (Vb n m 0 0) s){us vs:List Pr}{q r:Nat×Nat}(w:BW f o p W (us++aP q::aP r::vs))(hr:r.1<n)(zC:r.2<m)(hq:q.1<r.1)(FC:q.2<r.2)(hE:s.1 (aP r) (aP r)):s.1 (aP q) (aP r):=by
 obtain⟨b1,b2,b3⟩:=between T w;have ok:=v.ok;have V0:∀a b,a<n→b<m→Vb n m 0 0 a b:=fun a b h1 h2=>⟨h1,h2,by lia⟩
 have top:=b1 r.1 r.2 hq FC YH (Nat.le_refl _);obtain⟨r0,m0,e0⟩:=v.on r.1 r.2 (V0 _ _ hr zC) hE (by rw[top];simpa[gJ]using b3);have XC:∀x y:Nat,uJ f o p (us++[aP q]) (x:Int) (y:Int)-o=uJ f o p (us++[aP q]) ((x+1:Nat):Int) (y:Int):=fun x y=>by
  unfold uJ;have e1:((x+1:Nat):Int)-1-(lstP (us++[aP q])).1=((x:Int)-1-(lstP (us++[aP q])).1)+1:=by lia
  rw[e1,Int.mul_add];lia
 have XD:∀x y:Nat,uJ f o p (us++[aP q]) (x:Int) (y:Int)-p=uJ f o p (us++[aP q]) (x:Int) ((y+1:Nat):Int):=fun x y=>by
  unfold uJ;have e1:((y+1:Nat):Int)-1-(lstP (us++[aP q])).2=((y:Int)-1-(lstP (us++[aP q])).2)+1:=by lia
  rw[e1,Int.mul_add];lia
 have go:∀d x y:Nat,(r.1-x)+(r.2-y)=d→q.1<x→q.2<y→x≤r.1→y≤r.2→∃r',s.2 (aP (x,y))=some r'∧s.1 (aP r) r':=by
  intro d
  induction d with
  |zero=>
   intro x y hd h1 h2 h3 h4;have:x=r.1:=by lia
   have:y=r.2:=by lia
   subst x y;exact⟨r0,m0,e0⟩
  |succ d ih=>
   intro x y hd h1 h2 h3 h4;by_cases hx:x<r.1
   ·obtain⟨r1,m1,e1⟩:=ih (x+1) y D9 (by lia) h2 D9 h4;obtain⟨y,rfl⟩:∃y',y=y'+1:=⟨y-1,by lia⟩
    obtain⟨_,z⟩:=v.ov x y r1 (V0 _ _ (by lia) (by lia)) m1;have hc:aP (x,y+1)∈bq f o p x y:=by
     unfold bq;refine List.mem_append_left _ ?_;rw[if_pos]
     ·simp[aP]
     ·rw[b1 x (y+1) h1 h2 h3 h4,b1 (x+1) (y+1) (by lia) h2 D9 h4];simp only[bA];rw[XC]
    obtain⟨r2,m2,e2⟩:=z _ hc;exact⟨r2,m2,ok.tr _ _ _ e1 e2⟩
   ·obtain⟨r1,m1,e1⟩:=ih x (y+1) (by lia) h1 D9 h3 D9;obtain⟨x,rfl⟩:∃x',x=x'+1:=⟨x-1,by lia⟩
    obtain⟨_,z⟩:=v.ov x y r1 (V0 _ _ (by lia) (by lia)) m1;have hc:aP (x+1,y)∈bq f o p x y:=by
     unfold bq;refine List.mem_append_right _ ?_;rw[if_pos]
     ·simp[aP]
     ·rw[b1 (x+1) y h1 h2 h3 h4,b1 (x+1) (y+1) h1 D9 h3 D9];simp only[bA];rw[XD]
    obtain⟨r2,m2,e2⟩:=z _ hc;exact⟨r2,m2,ok.tr _ _ _ e1 e2⟩
 obtain⟨r1,m1,e1⟩:=go _ (q.1+1) (q.2+1) rfl (by lia) (by lia) (by lia) (by lia);obtain⟨z,_⟩:=v.ov q.1 q.2 r1 (V0 _ _ (by lia) (by lia)) m1;have:=z (by
  rw[b2,b1 (q.1+1) (q.2+1) (by lia) (by lia) (by lia) (by lia)]
  congr 1
  unfold uJ;rw[dI];have z1:((q.1+1:Nat):Int)-1-(aP q).1=0:=by show((q.1+1:Nat):Int)-1-(q.1:Int)=0;lia
  have z2:((q.2+1:Nat):Int)-1-(aP q).2=0:=by show((q.2+1:Nat):Int)-1-(q.2:Int)=0;lia
  rw[z1,z2,Int.mul_zero,Int.mul_zero];lia)
 exact ok.tr _ _ _ this (ok.sy _ _ e1)
theorem Vd.all{f:Nat→Nat→Option Int}{o p W:Int}{n m:Nat}{s:GS}(T:eZ f o p W)(t:Dy f n m)(v:Vd f o p W (Vb n m 0 0) s){ws:List Pr}(w:BW f o p W ws):
  ∀(vs us:List Pr),ws=us++vs→vs≠[]→∀a∈vs,s.1 a (gG vs)
 |[],_,_,h=>absurd rfl h
 |[l],us,e,_=>fun a ha=>by
  have ha:a=l:=by simpa using ha
  subst ha;show s.1 a a;obtain⟨i,j,rfl,hi,hj⟩:=jQ t w.1 (a:=a) (by rw[e];simp);have hl:lstP ws=aP (i,j):=by rw[e];exact dI
  obtain⟨b,hb,hle⟩:=xk (o:=o) (p:=p) w.1 hl;obtain⟨as,a1,a2,a3⟩:=mn hb;have:=T _ a1;have hW:=w.2;exact v.en i j ⟨hi,hj,by lia⟩ (by rw[hb];congr 1;lia)
 |q::r::vs,us,e,_=>fun a ha=>by
  have ih:=Vd.all T t v w (r::vs) (us++[q]) (by rw[e];simp) (IM);have MF:s.1 r r:=ih r Mi;have ok:=v.ok;obtain⟨i,j,hq,hi,hj⟩:=jQ t w.1 (a:=q) (by rw[e];simp);obtain⟨x,y,hr,hx,hy⟩:=jQ t w.1 (a:=r) (by rw[e];simp);have vp:zw q r:=by
   have:=w.1.up;rw[e]at this;exact(List.pairwise_cons.mp (Κ this).2.1).1 r Mi
  rw[hq,hr]at vp;have h1:(i:Int)<x:=vp.1;have h2:(j:Int)<y:=vp.2;rw[e,hq,hr]at w;have key:=v.step T w (q:=(i,j)) (r:=(x,y)) hx hy (by show i<x;lia) (by show j<y;lia) (by rw[←hr];exact MF);rw[←hq,←hr]at key;show s.1 a q;rcases List.mem_cons.mp ha with rfl|ha
  ·exact ok.tr _ _ _ key (ok.sy _ _ key)
  ·exact ok.tr _ _ _ (ih a ha) (ok.sy _ _ key)
theorem Vd.FG{f:Nat→Nat→Option Int}{o p W:Int}{n m:Nat}{s:GS}(T:eZ f o p W)(t:Dy f n m)(v:Vd f o p W (Vb n m 0 0) s)(a b:Pr):s.1 a b↔fB f o p W a b:=by
 refine⟨v.ok.hg a b,fun h=>?_⟩
 induction h with
 |way ps w h1 h2=>
  have k:=Vd.all T t v w ps [] rfl w.1.ne;exact v.ok.tr _ _ _ (k _ h1) (v.ok.sy _ _ (k _ h2))
 |tr _ _ i1 i2=>exact v.ok.tr _ _ _ i1 i2
theorem Told.iff{E E':Pr→Pr→Prop}{gs:List (List Pr)}(t:Told E gs)(h:∀a b,E a b↔E' a b):Told E' gs:=
 ⟨t.qB,t.ne,fun ps hp a ha b=>(t.cls ps hp a ha b).trans (h a b),fun a ha=>t.all a ((h a a).mpr ha),t.apart⟩
def NT(H:Hp)(a:Addr):Prop:=∃o,H a=some o∧∀v,o≠ .tup v
theorem NT.same{H H':Hp}{a:Addr}(h:NT H a)(s:av H H'):NT H' a:=let ⟨o,h1,h2⟩:=h;⟨o,s _ _ h1,h2⟩
theorem oV.cA{S S':Addr→Prop}{H H':Hp}(u:oV S H S' H')(h:∀a,S a→NT H a):cO H H':=fun t v e=>u.keep t _ (fun z=>by
 obtain⟨o,h1,h2⟩:=h t z;rw[e]at h1;cases h1;exact h2 v rfl) e
theorem oV.out{S S':Addr→Prop}{H H':Hp}(u:oV S H S' H'){a:Addr}{o:HO}(h:¬S a)(e:H a=some o):¬S' a:=fun z=>by
 rcases u.grow a z with z|z
 ·exact h z
 ·rw[e]at z;cases z
theorem jP.nt{H:Hp}{C g:Addr}{S:Addr→Prop}{E:Pr→Pr→Prop}{B:Nat}(G:jP H C g S E B):jP H C g (fun a=>S a∧NT H a) E B:=by
 obtain⟨dg,dl,dm,kl,km,ld,mm,a1,a2,D,a4⟩:=G;refine⟨dg,dl,dm,kl,km,ld,mm,a1,fun z=>a2 z.1,⟨D.hl,D.hm,⟨D.sl,_,D.hl,fun v=>(IM)⟩,⟨D.sm,_,D.hm,fun v=>(IM)⟩,D.ne,D.lv,fun p=>?_,D.inj,D.key,D.BK,D.ms,D.ml,D.self⟩,a4⟩;have:=D.mv p;cases e:mm p with
 |none=>rw[e]at this;exact this
 |some ms=>
  rw[e]at this;obtain⟨a,us,h1,h2,h3,h4⟩:=this;exact⟨a,us,h1,h2,h3,h4,_,h2,fun v=>(IM)⟩
structure Jy(K:W.Frag)(C:Addr):Prop where
 cl:wg K C
 tS:bY K C "trails"
 worth:bY K C "worth"
 groups:bY K C "groups"
 marks:bY K C "marks"
def jR(tr:Addr)(W:Int)(g dk:Addr):List (Str×V):=[("trails", .ref tr),("worth", .int W),("groups", .ref g),("marks", .ref dk)]
theorem mq(a:Addr)(W:Int)(b c:Addr):(jR a W b c).lookup ("trails":Str)=some (V.ref a):=by kernel_rfl
theorem FH(a:Addr)(W:Int)(b c:Addr):(jR a W b c).lookup ("worth":Str)=some (V.int W):=by kernel_rfl
theorem i4(a:Addr)(W:Int)(b c:Addr):(jR a W b c).lookup ("groups":Str)=some (V.ref b):=by kernel_rfl
theorem lK(a:Addr)(W:Int)(b c:Addr):(jR a W b c).lookup ("marks":Str)=some (V.ref c):=by kernel_rfl
theorem BO(a:Addr)(W:Int)(b c:Addr):(jR a W b c).lookup ("mark":Str)=none:=by kernel_rfl
theorem HU(a:Addr)(W:Int)(b c:Addr):(jR a W b c).lookup ("go_over":Str)=none:=by kernel_rfl
theorem FI(a:Addr)(W:Int)(b c:Addr):(jR a W b c).lookup ("visit":Str)=none:=by kernel_rfl
theorem LU(a:Addr)(W:Int)(b c:Addr):bp "marks" (.ref c) (bp "groups" (.ref b) (bp "worth" (.int W) (bp "trails" (.ref a) [])))=jR a W b c:=by kernel_rfl
structure LV(H:Hp)(C CG x tr:Addr)(W:Int)(S:Addr→Prop)(s:GS)(B M:Nat)(dx g dk:Addr)(km:List (List Key×V))(S1:Addr→Prop):Prop where
 ob:H x=some (.ins C dx (jR tr W g dk))
 gr:jP H CG g S1 s.1 B
 hk:H dk=some (.dT km)
 mv:∀c,LO H (bu km (a8 c)) (s.2 c)
 len:km.length≤M
 sS:∀a,S a↔S1 a∨a=dk
 BK:¬S1 dk
 nx:¬S x
 ng:¬S g
 nt:∀a,S a→NT H a
def ij(H:Hp)(C CG x tr:Addr)(W:Int)(S:Addr→Prop)(s:GS)(B M:Nat):Prop:=∃dx g dk km S1,LV H C CG x tr W S s B M dx g dk km S1
theorem ij.nt{H:Hp}{C CG x tr:Addr}{W:Int}{S:Addr→Prop}{s:GS}{B M:Nat}(G:ij H C CG x tr W S s B M):∀a,S a→NT H a:=let ⟨_,_,_,_,_,D⟩:=G;D.nt
theorem ij.same{H H':Hp}{C CG x tr:Addr}{W:Int}{S:Addr→Prop}{s:GS}{B M:Nat}(G:ij H C CG x tr W S s B M)(t:av H H'):ij H' C CG x tr W S s B M:=by
 obtain⟨dx,g,dk,km,S1,D⟩:=G;exact⟨dx,g,dk,km,S1,t _ _ D.ob,D.gr.same t,t _ _ D.hk,fun c=>(D.mv c).cA (cO.same t),D.len,D.sS,D.BK,D.nx,D.ng,fun a h=>(D.nt a h).same t⟩
theorem ij.out{H:Hp}{C CG x tr:Addr}{W:Int}{S:Addr→Prop}{s:GS}{B M:Nat}(G:ij H C CG x tr W S s B M){a:Addr}(h:H a=none):¬S a:=fun z=>by
 obtain⟨o,e,_⟩:=G.nt a z;rw[h]at e;cases e
theorem ij.cast{H:Hp}{C CG x tr:Addr}{W:Int}{S:Addr→Prop}{s s':GS}{B M B' M':Nat}(G:ij H C CG x tr W S s B M)(h:s=s')(hB:B≤B')(hM:M≤M'):ij H C CG x tr W S s' B' M':=by
 subst h;obtain⟨dx,g,dk,km,S1,D⟩:=G;exact⟨dx,g,dk,km,S1,D.ob,D.gr.iff (fun _ _=>Iff.rfl) hB,D.hk,D.mv,by have:=D.len;lia,D.sS,D.BK,D.nx,D.ng,D.nt⟩
section
variable{H H':Hp}{C CG x tr dx g dk:Addr}{W:Int}{S S1 LW:Addr→Prop}{s:GS}{B M B':Nat}{km:List (List Key×V)}
theorem LV.Qz(D:LV H C CG x tr W S s B M dx g dk km S1){E':Pr→Pr→Prop}(u:oV S1 H LW H')(G:jP H' CG g LW E' B'):∃S' S2,oV S H S' H'∧LV H' C CG x tr W S' (E',s.2) B' M dx g dk km S2:=by
 have s1:∀a,S1 a→S a:=fun a h=>(D.sS a).mpr (.inl h)
 have XE:∀a,S1 a→NT H a:=fun a h=>D.nt a (s1 a h)
 have T:=u.cA XE;have z_:=u.keep dk _ D.BK D.hk;obtain⟨dg,dl,dm,kl,HV,ld,mm,og,_⟩:=id D.gr;have gone:∀{a o},¬S a→H a=some o→a≠dk→¬((LW a∧NT H' a)∨a=dk):=fun{a o} h1 h2 h3 z=>by
  rcases z with z|z
  ·exact u.out (fun y=>h1 (s1 _ y)) h2 z.1
  ·exact h3 z
 have Ax:S dk:=(D.sS dk).mpr (.inr rfl);refine⟨fun a=>(LW a∧NT H' a)∨a=dk,fun a=>LW a∧NT H' a,⟨fun a h=>?_,fun a o h e=>u.keep a o (fun z=>h (s1 a z)) e⟩,⟨u.keep x _ (fun z=>D.nx (s1 _ z)) D.ob,G.nt,z_,fun c=>(D.mv c).cA T,D.len,fun a=>Iff.rfl,fun z=>u.out D.BK D.hk z.1,gone D.nx D.ob (fun z=>D.nx (by rw[z];exact Ax)),gone D.ng og (fun z=>D.ng (by rw[z];exact Ax)),fun a h=>?_⟩⟩
 ·rcases h with h|h
  ·exact(u.grow a h.1).imp (s1 a) id
  ·exact .inl (by rw[h];exact Ax)
 ·rcases h with h|h
  ·exact h.2
  ·exact⟨_,by rw[h];exact z_,fun v=>(IM)⟩
theorem LV.put(D:LV H C CG x tr W S s B M dx g dk km S1){c r:Pr}{t:Addr}(ht:H t=some (.tup (iE r))):oV S H S (upd H dk (.dT (putK km (a8 c) (.ref t))))∧LV (upd H dk (.dT (putK km (a8 c) (.ref t)))) C CG x tr W S (s.1,fun y=>if y=c then some r else s.2 y) B (M+1) dx g dk (putK km (a8 c) (.ref t)) S1:=by
 have Ax:S dk:=(D.sS dk).mpr (.inr rfl);have nx:x≠dk:=fun z=>D.nx (by rw[z];exact Ax)
 have ng:g≠dk:=fun z=>D.ng (by rw[z];exact Ax)
 have T:cO H (upd H dk (.dT (putK km (a8 c) (.ref t)))):=fun b v hb=>by
  rw[aj (fun z=>by rw[z,D.hk]at hb;cases hb)];exact hb
 refine⟨.put Ax,⟨by rw[aj nx];exact D.ob,D.gr.keep (fun a o h e=>by rw[aj (fun z=>D.BK (by rw[←z];exact h))];exact e) T (fun o e=>by rw[aj ng];exact e),ae,fun y=>?_,ZN (eV _ _ _) (by have:=D.len;lia),D.sS,D.BK,D.nx,D.ng,fun a h=>?_⟩⟩
 ·show LO _ _ (if y=c then some r else s.2 y);rw[i7];by_cases e:y=c
  ·rw[HB (by rw[e]),HB e];exact⟨t,rfl,T _ _ ht⟩
  ·rw[Dt (fun z=>e (dh z)),Dt e];exact(D.mv y).cA T
 ·by_cases e:a=dk
  ·exact⟨_,by rw[e];exact ae,fun v=>(IM)⟩
  ·obtain⟨o,h1,h2⟩:=D.nt a h;exact⟨o,by rw[aj e];exact h1,h2⟩
end
structure Base(H0 H:Hp)(S:Addr→Prop):Prop where
 same:av H0 H
 free:∀a,S a→H0 a=none
theorem Base.ups{H0 H H':Hp}{S S':Addr→Prop}(b:Base H0 H S)(u:oV S H S' H'):Base H0 H' S':=by
 refine⟨fun a o h=>u.keep a o (fun z=>by rw[b.free a z]at h;cases h) (b.same a o h),fun a h=>?_⟩;rcases u.grow a h with z|z
 ·exact b.free a z
 ·exact b.same.free z
theorem Base.more{H0 H H':Hp}{S:Addr→Prop}(b:Base H0 H S)(s:av H H'):Base H0 H' S:=⟨b.same.trans s,b.free⟩
inductive qH(C CG:Addr)(vs:List V)(H:Hp)(Q:VK)(u3:XK):Prop
 |mk (x dx tr:Addr) (W:Int) (_:vs=[.ref x, .ref tr, .int W]) (_:H x=some (.ins C dx [])) (_:∀H' S,SameBut x H H'→(∀a,S a→H a=none)→ij H' C CG x tr W S (fun _ _=>False,fun _=>none) 0 0→Q .cJ H'):qH C CG vs H Q u3
inductive tT(C CG:Addr)(vs:List V)(H:Hp)(Q:VK)(u3:XK):Prop
 |mk (x tc tp tr:Addr) (W:Int) (c r:Pr) (S:Addr→Prop) (s:GS) (B M:Nat) (_:vs=[.ref x, .ref tc, .ref tp]) (_:ij H C CG x tr W S s B M) (_:H tc=some (.tup (iE c))) (_:H tp=some (.tup (iE r))) (_:s.1 r r) (_:∀r0,s.2 c=some r0→s.1 r0 r0) (_:B≤10000) (_:M≤10000) (_:∀H' S',oV S H S' H'→ij H' C CG x tr W S' (y4 s c r) B (M+1)→Q .cJ H'):tT C CG vs H Q u3
inductive tU(C CG CT:Addr)(vs:List V)(H:Hp)(Q:VK)(u3:XK):Prop
 |mk (x tc tp tr dt e b:Addr) (es bs:List Addr) (f:Nat→Nat→Option Int) (o p:Int) (n m:Nat) (W:Int) (i j:Nat) (r:Pr) (S:Addr→Prop) (s:GS) (B M:Nat) (H0:Hp) (_:vs=[.ref x, .ref tc, .ref tp]) (_:ij H C CG x tr W S s B M) (_:qD H0 CT tr dt e b es bs f o p n m) (_:Base H0 H S) (_:H tc=some (.tup (iE (aP (i+1,j+1))))) (_:H tp=some (.tup (iE ZD))) (_:i<n) (_:j<m) (_:eZ f o p W) (_:ig f o p W s) (_:s.2 (aP (i+1,j+1))=some r) (_:B<10000) (_:M+2≤10000)
  (_:∀H' S',oV S H S' H'→ij H' C CG x tr W S' (LR f o p i j s r) (B+1) (M+2)→Q .cJ H'):tU C CG CT vs H Q u3
inductive qI(C CG CT:Addr)(vs:List V)(H:Hp)(Q:VK)(u3:XK):Prop
 |mk (x tr dt e b:Addr) (es bs:List Addr) (f:Nat→Nat→Option Int) (o p:Int) (n m:Nat) (W:Int) (i j:Nat) (S:Addr→Prop) (s:GS) (B M:Nat) (H0:Hp) (_:vs=[.ref x, .int i, .int j]) (_:ij H C CG x tr W S s B M) (_:qD H0 CT tr dt e b es bs f o p n m) (_:Base H0 H S) (_:i<n) (_:j<m) (_:n≤1000) (_:m≤1000) (_:eZ f o p W) (_:ig f o p W s) (_:B+2≤10000) (_:M+3≤10000)
  (_:∀H' S',oV S H S' H'→ij H' C CG x tr W S' (zB f o p W i j s) (B+2) (M+3)→Q .cJ H'):qI C CG CT vs H Q u3
inductive Ay(CT:Addr)(vs:List V)(H:Hp)(Q:VK)(u3:XK):Prop
 |mk (tr dt e b:Addr) (es bs:List Addr) (f:Nat→Nat→Option Int) (o p:Int) (n m:Nat) (W:Int) (_:vs=[.ref tr, .int W]) (_:qD H CT tr dt e b es bs f o p n m) (_:Dy f n m) (_:n*m≤3000) (_:n≤1000) (_:m≤1000) (_:eZ f o p W)
  (_:∀H' r us gs,av H H'→H r=none→H' r=some (.lst us)→f9 H' us gs→(∀(k:Nat) a,us[k]?=some (.ref a)→H a=none)→Told (fB f o p W) gs→Q (.ref r) H'):Ay CT vs H Q u3
structure Fd where
 worth:Int
 way:List Pr
 row:List Int
 pairs:List Pr
def zD(g:Pr→Option Int)(o p:Int)(ps:List Pr):List Int:=(X_ ps.length).map fun k=>vl g o p (ps.take (k+1))
theorem FJ(g:Pr→Option Int)(o p:Int)(ps:List Pr)(q:Pr):zD g o p (ps++[q])=zD g o p ps++[vl g o p (ps++[q])]:=by
 unfold zD;rw[List.length_append,List.length_singleton,List.range_succ,List.map_append]
 congr 1
 ·apply List.map_congr_left;intro k hk;have:k<ps.length:=by simpa using hk
  rw[List.take_append_of_le_length D9]
 ·simp;rw[List.take_of_length_le Mi]
structure OL(f:Nat→Nat→Option Int)(o p W:Int)(d:Fd):Prop where
 worth:d.worth=W
 way:BW f o p W d.way
 row:d.row=zD Y6 o p d.way
 sub:∀q∈d.way,q∈d.pairs
def j9(f:Nat→Nat→Option Int)(ps:List Pr):Nat→Nat→Option Int:=fun i j=>if aP (i,j)∈ps then none else f i j
def Stop(f:Nat→Nat→Option Int)(o p least:Int):Prop:=∀ps,Wy Y6 ps→vl Y6 o p ps<least
structure jv(f:Nat→Nat→Option Int)(o p least W:Int)(gs:List (List Pr))(ds:List Fd):Prop where
 top:eZ f o p W
 ex:∃ps,BW f o p W ps
 least:least≤W
 told:Told (fB f o p W) gs
 FK:ds.map Fd.pairs=gs
 ok:∀d∈ds,OL f o p W d
inductive Reach(f0:Nat→Nat→Option Int)(o p least:Int):List Fd→(Nat→Nat→Option Int)→Prop
 |start:Reach f0 o p least [] f0
 |round {done:List Fd} {f:Nat→Nat→Option Int} {W:Int} {gs:List (List Pr)} {ds:List Fd} (_:Reach f0 o p least done f) (_:jv f o p least W gs ds):Reach f0 o p least (done++ds) (j9 f gs.flatten)
theorem FN{f:Nat→Nat→Option Int}{n m:Nat}(t:Dy f n m)(ps:List Pr):Dy (j9 f ps) n m:=fun i j h=>t i j (by
 unfold j9 at h;split at h
 ·cases h
 ·exact h)
theorem Reach.SS{f0 f:Nat→Nat→Option Int}{o p least:Int}{ds:List Fd}{n m:Nat}(t:Dy f0 n m)(r:Reach f0 o p least ds f):Dy f n m:=by
 induction r with
 |start=>exact t
 |round _ _ ih=>exact FN ih _
theorem mw(f:Nat→Nat→Option Int)(ps:List Pr)(q:Pr):lf (j9 f ps) q=if q∈ps then none else lf f q:=by
 unfold lf j9;by_cases h:0≤q.1∧0≤q.2
 ·rw[HB h,HB h];have:aP (q.1.toNat,q.2.toNat)=q:=Prod.ext (by simp[aP];lia) (by simp[aP];lia);rw[this]
 ·rw[Dt h,Dt h];split<;>rfl
theorem fB.open{f:Nat→Nat→Option Int}{o p W:Int}{a b:Pr}(h:fB f o p W a b):(lf f a).isSome=true:=by
 obtain⟨ps,⟨w,_⟩,hm⟩:=h.on;exact w.ok a hm
theorem Told.mem{E:Pr→Pr→Prop}{gs:List (List Pr)}(t:Told E gs){ps:List Pr}(h:ps∈gs){a:Pr}(ha:a∈ps):E a a:=(t.cls ps h a ha a).mp ha
structure Apart(f0 f:Nat→Nat→Option Int)(ds:List Fd):Prop where
 sub:∀q,(lf f q).isSome=true→lf f q=lf f0 q
 shut:∀d∈ds,∀q∈d.pairs,lf f q=none∧(lf f0 q).isSome=true
 ap:ds.Pairwise fun a b=>∀q∈a.pairs,q∉b.pairs
 qB:∀d∈ds,d.pairs.Pairwise (fun p q=>ip p q=true)∧d.pairs≠[]
 gone:∀q,lf f q=none→(lf f0 q).isSome=true→∃d∈ds,q∈d.pairs
theorem Reach.apart{f0 f:Nat→Nat→Option Int}{o p least:Int}{ds:List Fd}(r:Reach f0 o p least ds f):Apart f0 f ds:=by
 induction r with
 |start=>exact⟨fun _ _=>rfl,fun d h=>(by cases h), .nil,fun d h=>(by cases h),fun q h1 h2=>by rw[h1]at h2;cases h2⟩
 |@round done f W gs ds r R ih=>
  have mem:∀d∈ds,d.pairs∈gs:=fun d h=>by rw[←R.FK];exact qV ⟨d,h,rfl⟩
  have op:∀d∈ds,∀q∈d.pairs,(lf f q).isSome=true:=fun d h q hq=>(R.told.mem (mem d h) hq).open
  refine⟨fun q h=>?_,fun d h q hq=>?_,?_,fun d h=>?_,fun q h1 h2=>?_⟩
  ·rw[mw]at h⊢;split at h
   ·cases h
   ·rename_i hn
    rw[Dt hn];exact ih.sub q h
  ·rw[mw];rcases List.mem_append.mp h with h|h
   ·obtain⟨h1,h2⟩:=ih.shut d h q hq;exact⟨by split;rfl;exact h1,h2⟩
   ·rw[HB (List.mem_flatten.mpr ⟨_,mem d h,hq⟩)];have:=op d h q hq;exact⟨rfl,by rw[←ih.sub q this];exact this⟩
  ·refine List.pairwise_append.mpr ⟨ih.ap,?_,fun a ha b hb q hq FC=>?_⟩
   ·have:=R.told.apart;rw[←R.FK,List.pairwise_map]at this;exact this
   ·have h1:=(ih.shut a ha q hq).1;have h2:=op b hb q FC;rw[h1]at h2;cases h2
  ·rcases List.mem_append.mp h with h|h
   ·exact ih.qB d h
   ·exact⟨R.told.qB _ (mem d h),R.told.ne _ (mem d h)⟩
  ·rw[mw]at h1;by_cases hm:q∈gs.flatten
   ·obtain⟨ps,CM,hq⟩:=List.mem_flatten.mp hm;rw[←R.FK]at CM;obtain⟨d,hd,rfl⟩:=Zt CM;exact⟨d,ZI hd,hq⟩
   ·rw[Dt hm]at h1;obtain⟨d,hd,hq⟩:=ih.gone q h1 h2;exact⟨d,Zw hd,hq⟩
theorem tV(f:Nat→Nat→Option Int)(o p:Int):∀i j v,Bq f o p i j=some v→∃e,dD f o p (cK f o p i j).1 (cK f o p i j).2=some e∧v=e-(o*((i:Int)-1-(cK f o p i j).1)+p*((j:Int)-1-(cK f o p i j).2))
 |0,j,v,h=>by rw[iJ]at h;cases h
 |i+1,0,v,h=>by unfold Bq at h;cases h
 |i+1,j+1,v,hB=>by
  unfold cK;by_cases h1:dD f o p i j=Bq f o p (i+1) (j+1)
  ·rw[HB h1];refine⟨v,by rw[h1,hB],?_⟩;have e1:((i+1:Nat):Int)-1-((i,j).1:Int)=0:=by show((i+1:Nat):Int)-1-(i:Int)=0;lia
   have e2:((j+1:Nat):Int)-1-((i,j).2:Int)=0:=by show((j+1:Nat):Int)-1-(j:Int)=0;lia
   rw[e1,e2,Int.mul_zero,Int.mul_zero];lia
  ·rw[Dt h1];by_cases h2:bA Ε o=Bq f o p (i+1) (j+1)
   ·rw[HB h2];cases e:Bq f o p i (j+1)with
    |none=>rw[e,hB]at h2;cases h2
    |some v2=>
     rw[e,hB]at h2;have h2:v2-o=v:=by simpa[bA]using h2
     obtain⟨x,hx,hv⟩:=tV f o p i (j+1) v2 e;refine⟨x,hx,?_⟩;have e1:((i+1:Nat):Int)-1-((cK f o p i (j+1)).1:Int)=((i:Int)-1-(cK f o p i (j+1)).1)+1:=by lia
     rw[e1,Int.mul_add]
     lia
   ·rw[Dt h2];have e0:Bq f o p (i+1) (j+1)=oP [dD f o p i j,bA Ε o,bA (Bq f o p (i+1) j) p]:=by rw[Bq];rfl
    have key:∀a b c:Option Int,oP [a,b,c]≠a→oP [a,b,c]≠b→c=oP [a,b,c]:=fun a b c=>by
     cases a<;>cases b<;>cases c<;>simp[oP]<;>lia
    have h3:bA (Bq f o p (i+1) j) p=Bq f o p (i+1) (j+1):=by
     rw[e0];exact key _ _ _ (fun z=>h1 (by rw[e0];exact z.symm)) (fun z=>h2 (by rw[e0];exact z.symm))
    cases e:Bq f o p (i+1) j with
    |none=>rw[e,hB]at h3;cases h3
    |some v2=>
     rw[e,hB]at h3;have h3:v2-p=v:=by simpa[bA]using h3
     obtain⟨x,hx,hv⟩:=tV f o p (i+1) j v2 e;refine⟨x,hx,?_⟩;have e1:((j+1:Nat):Int)-1-((cK f o p (i+1) j).2:Int)=((j:Int)-1-(cK f o p (i+1) j).2)+1:=by lia
     rw[e1,Int.mul_add]
     lia
termination_by i j=>(i,j)
theorem HW(f:Nat→Nat→Option Int)(o p:Int):∀(k i j:Nat)(v:Int),i≤k→dD f o p i j=some v→Wy Y6 ((eG f o p i i j).map aP)∧lstP ((eG f o p i i j).map aP)=aP (i,j)∧vl Y6 o p ((eG f o p i i j).map aP)=v∧(eG f o p i i j).map (fun q=>dD f o p q.1 q.2)=(zD Y6 o p ((eG f o p i i j).map aP)).map some:=by
 intro k
 induction k with
 |zero=>
  intro i j v hi he;have:i=0:=by lia
  subst this;rw[gP (fun h=>by rw[iJ]at h;cases h)];have hw:f 0 j=some v:=by
   unfold dD at he;rw[iJ]at he;cases e:f 0 j with
   |none=>rw[e]at he;cases he
   |some w=>rw[e]at he;exact he
  have hl:lf f (aP (0,j))=some v:=by rw[←hw];exact qz f 0 j
  refine⟨.one (by rw[hl];rfl),rfl,by simp[vl,hl],?_⟩;simp[zD,vl,hl,he]
 |succ k ih=>
  intro i j v hi he;by_cases hg:gJ (Bq f o p i j)=true
  ·obtain⟨a1,a2,a3⟩:=j7 hg;obtain⟨l1,l2⟩:=(kF f o p i j a1 a2).resolve_right a3;rw[vT hg,List.map_append,List.map_append];cases eb:Bq f o p i j with
   |none=>exact V' eb a3
   |some b=>
    obtain⟨x,hx,hb⟩:=tV f o p i j b eb;obtain⟨w1,w2,w3,w4⟩:=ih _ _ x (by lia) hx;have aaY:0≤b:=by rw[eb]at hg;simpa[gJ]using hg
    have hw:∃w,f i j=some w∧v=w+b:=by
     unfold dD at he;rw[eb]at he;cases e:f i j with
     |none=>rw[e]at he;cases he
     |some w=>
      rw[e]at he;simp only[Hx,show ¬b<0 by lia,if_false,Option.some.injEq]at he;exact⟨w,rfl,by lia⟩
    obtain⟨w,hw,hv⟩:=hw;have hl:lf f (aP (i,j))=some w:=by rw[←hw];exact qz f i j
    have st:zw (lstP ((eG f o p (cK f o p i j).1 (cK f o p i j).1 (cK f o p i j).2).map aP)) (aP (i,j)):=by
     rw[w2];exact⟨by simp[aP];lia,by simp[aP];lia⟩
    have ev:vl Y6 o p ((eG f o p (cK f o p i j).1 (cK f o p i j).1 (cK f o p i j).2).map aP++[aP (i,j)])=v:=by
     rw[oR _ _ _ w1.ne,w2,w3,hl];simp only[gp,Option.getD_some];have e1:(aP (i,j)).1-(aP ((cK f o p i j).1,(cK f o p i j).2)).1-1=(i:Int)-1-(cK f o p i j).1:=by show(i:Int)-((cK f o p i j).1:Int)-1=_;lia
     have e2:(aP (i,j)).2-(aP ((cK f o p i j).1,(cK f o p i j).2)).2-1=(j:Int)-1-(cK f o p i j).2:=by show(j:Int)-((cK f o p i j).2:Int)-1=_;lia
     rw[e1,e2]
     lia
    refine⟨w1.snoc (by rw[hl];rfl) st,dI,ev,?_⟩;show _++[dD f o p i j]=(zD Y6 o p (_++[aP (i,j)])).map some;rw[FJ,List.map_append,w4,he];show _++[some v]=_++[some _];rw[ev]
  ·rw[gP hg];have hw:f i j=some v:=by
    unfold dD at he;cases e:f i j with
    |none=>rw[e]at he;cases he
    |some w=>
     rw[e]at he;cases eb:Bq f o p i j with
     |none=>rw[eb]at he;exact he
     |some b=>
      rw[eb]at he hg;have:b<0:=by
       have:¬0≤b:=fun z=>hg (by simpa[gJ]using z)
       lia
      simp only[Hx,this,if_true]at he;exact he
   have hl:lf f (aP (i,j))=some v:=by rw[←hw];exact qz f i j
   refine⟨.one (by rw[hl];rfl),rfl,by simp[vl,hl],?_⟩;simp[zD,vl,hl,he]
def HX(f:Nat→Nat→Option Int)(o p:Int)(n m:Nat):Option Int:=oP ((X_ n).map fun i=>oP ((X_ m).map (dD f o p i)))
theorem FO{f:Nat→Nat→Option Int}{n m:Nat}(t:Dy f n m)(o p:Int):fW (fun v=>∃ps,Wy Y6 ps∧v=vl Y6 o p ps) (HX f o p n m):=by
 refine(kD _).US (fun v hv=>?_) (fun v hv=>?_)
 ·obtain⟨i,_,h2⟩:=List.mem_map.mp hv;have h3:=kD ((X_ m).map (dD f o p i));rw[h2]at h3;obtain⟨j,_,h4⟩:=Zt h3.1;obtain⟨as,a1,_,a3⟩:=mn h4;exact⟨as,a1,a3.symm⟩
 ·obtain⟨ps,w,rfl⟩:=hv;obtain⟨i,j,hl,hi,hj⟩:=jQ t w (cR w.ne);obtain⟨b,hb,hle⟩:=xk (o:=o) (p:=p) w hl;have h3:=kD ((X_ m).map (dD f o p i));have oe:some b∈(X_ m).map (dD f o p i):=qV ⟨j,by simpa using hj,hb⟩;cases e:oP ((X_ m).map (dD f o p i))with
  |none=>rw[e]at h3;exact V' oe (h3 b)
  |some u=>
   rw[e]at h3;refine⟨u,qV ⟨i,by simpa using hi,e⟩,?_⟩;have:=h3.2 b oe
   lia
theorem CZ{f:Nat→Nat→Option Int}{o p W:Int}(T:eZ f o p W){n m:Nat}(t:Dy f n m){a b:Pr}(h:fB f o p W a b):∃i j:Nat,dD f o p i j=some W∧i<n∧j<m∧fB f o p W a (aP (i,j)):=by
 obtain⟨ps,w,hm⟩:=h.on;obtain⟨i,j,hl,hi,hj⟩:=jQ t w.1 (cR w.1.ne);obtain⟨v,hb,hle⟩:=xk (o:=o) (p:=p) w.1 hl;obtain⟨as,a1,_,a3⟩:=mn hb;have:=T _ a1;have hW:=w.2;refine⟨i,j,by rw[hb];congr 1;lia,hi,hj, .way ps w hm ?_⟩;rw[←hl];exact cR w.1.ne
def uK(n m:Nat):List Pr:=(X_ n).flatMap fun i=>(X_ m).map fun j=>aP (i,j)
theorem oX(n m:Nat):(uK n m).length=n*m:=by
 unfold uK
 induction n with
 |zero=>simp
 |succ n ih=>
  rw[List.range_succ,List.flatMap_append,List.length_append,ih,Nat.succ_mul];simp
theorem oY{n m i j:Nat}(hi:i<n)(hj:j<m):aP (i,j)∈uK n m:=List.mem_flatMap.mpr ⟨i,by simpa using hi,qV ⟨j,by simpa using hj,rfl⟩⟩
theorem Told.uB{E:Pr→Pr→Prop}{gs:List (List Pr)}{n m:Nat}(t:Told E gs)(h:∀g∈gs,∀a∈g,∃i j:Nat,a=aP (i,j)∧i<n∧j<m):gs.length≤n*m:=by
 have hf:∀g∈gs,gG g∈g:=fun g hg=>by
  cases e:g with
  |nil=>exact V' e (t.ne g hg)
  |cons a r=>simp[gG]
 have:=len_sub (gs.map gG) (uK n m) (List.pairwise_map.mpr (List.Pairwise.imp_of_mem (fun{a b} ha hb Fs e=>Fs (gG a) (hf a ha) (by rw[e];exact hf b hb)) t.apart)) fun x hx=>by
  obtain⟨g,hg,rfl⟩:=Zt hx;obtain⟨i,j,e,hi,hj⟩:=h g hg _ (hf g hg);rw[e];exact oY hi hj
 rw[List.length_map,oX]at this;exact this
structure vU(P:Addr→Prop)(H:Hp)(CF a:Addr)(d:Fd)(dy wy rw pr:Addr)(kG iq:List V):Prop where
 ob:H a=some (.ins CF dy (mY d.worth wy rw pr))
 hw:H wy=some (.lst kG)
 pw:fK H kG d.way
 hr:H rw=some (.lst (d.row.map V.int))
 hp:H pr=some (.lst iq)
 pp:fK H iq d.pairs
 fa:P a
 fw:P wy
 fr:P rw
 fp:P pr
def cx(P:Addr→Prop)(H:Hp)(CF:Addr)(us:List V)(ds:List Fd):Prop:=us.length=ds.length∧∀(k:Nat) d,ds[k]?=some d→∃a dy wy rw pr kG iq,us[k]?=some (V.ref a)∧vU P H CF a d dy wy rw pr kG iq
theorem vU.keep{P P':Addr→Prop}{H H':Hp}{CF a:Addr}{d:Fd}{dy wy rw pr:Addr}{kG iq:List V}(F:vU P H CF a d dy wy rw pr kG iq)(h:∀b o,P b→H b=some o→H' b=some o)(t:cO H H')(hP:∀b,P b→P' b):vU P' H' CF a d dy wy rw pr kG iq:=
 ⟨h _ _ F.fa F.ob,h _ _ F.fw F.hw,F.pw.cA t,h _ _ F.fr F.hr,h _ _ F.fp F.hp,F.pp.cA t,hP _ F.fa,hP _ F.fw,hP _ F.fr,hP _ F.fp⟩
theorem cx.keep{P P':Addr→Prop}{H H':Hp}{CF:Addr}{us:List V}{ds:List Fd}(F:cx P H CF us ds)(h:∀b o,P b→H b=some o→H' b=some o)(t:cO H H')(hP:∀b,P b→P' b):cx P' H' CF us ds:=
 ⟨F.1,fun k d e=>let ⟨a,dy,wy,rw,pr,kG,iq,h1,h2⟩:=F.2 k d e;⟨a,dy,wy,rw,pr,kG,iq,h1,h2.keep h t hP⟩⟩
theorem cx.nil{P:Addr→Prop}{H:Hp}{CF:Addr}:cx P H CF [] []:=⟨rfl,fun k d e=>by simp at e⟩
theorem cx.append{P:Addr→Prop}{H:Hp}{CF:Addr}{us vs:List V}{ds es:List Fd}(F:cx P H CF us ds)(G:cx P H CF vs es):cx P H CF (us++vs) (ds++es):=by
 refine⟨by rw[List.length_append,List.length_append,F.1,G.1],fun k d e=>?_⟩;by_cases hk:k<ds.length
 ·rw[ZA hk]at e;rw[ZA (by rw[F.1];exact hk)];exact F.2 k d e
 ·rw[ZF D9]at e;rw[ZF (by rw[F.1];lia),F.1];exact G.2 _ d e
inductive tW(CT:Addr)(vs:List V)(H:Hp)(Q:VK)(u3:XK):Prop
 |mk (f g t:Addr) (v:V) (c:Case) (shut:List Pr) (_:vs=[.ref f, .ref g, .ref t,v]) (_:H f=some (.lst (c.xs.map V.str))) (_:H g=some (.lst (c.ys.map V.str))) (_:yE H CT t c) (_:EO H v shut) (_:shut.length≤1000) (_:c.xs.length≤1000) (_:c.ys.length≤1000) (_:∀H' e as,av H H'→H' e=some (.lst (as.map V.ref))→H e=none→i_ H' as (iz c shut) c.xs.length c.ys.length→as.Nodup→e∉as→(∀a∈as,H a=none)→Q (.ref e) H'):tW CT vs H Q u3
inductive oZ(CT CF:Addr)(vs:List V)(H:Hp)(Q:VK)(u3:XK):Prop
 |mk (w t:Addr) (as:List Addr) (c:Case) (f:Nat→Nat→Option Int) (n m:Nat) (_:vs=[.ref w, .ref t]) (_:H w=some (.lst (as.map V.ref))) (_:i_ H as f n m) (_:yE H CT t c) (_:Dy f n m) (_:n*m≤3000) (_:n≤1000) (_:m≤1000)
  (_:Stop f c.out c.into c.least→∀H' r,av H H'→H r=none→H' r=some (.lst [])→Q (.ref r) H')
  (_:∀W gs ds,jv f c.out c.into c.least W gs ds→gs≠[]→∀H' r us,av H H'→H r=none→H' r=some (.lst us)→cx (fun b=>H b=none) H' CF us ds→Q (.ref r) H'):oZ CT CF vs H Q u3
inductive tX(CF:Addr)(vs:List V)(H:Hp)(Q:VK)(u3:XK):Prop
 |mk (w md:Addr) (as:List Addr) (us:List V) (ds:List Fd) (f:Nat→Nat→Option Int) (n m:Nat) (_:vs=[.ref w, .ref md]) (_:H w=some (.lst (as.map V.ref))) (_:as.Nodup) (_:w∉as) (_:i_ H as f n m) (_:H md=some (.lst us)) (_:md∉as) (_:cx (fun b=>b∉as) H CF us ds) (_:∀d∈ds,∀q∈d.pairs,∃i j:Nat,q=aP (i,j)∧i<n∧j<m)
  (_:∀H',(∀b o,b∉as→H b=some o→H' b=some o)→cO H H'→i_ H' as (j9 f (ds.map Fd.pairs).flatten) n m→Q .cJ H'):tX CF vs H Q u3
def OM(a b:Fd):Bool:=if a.worth=b.worth then ip (gG a.pairs) (gG b.pairs)else decide (b.worth<a.worth)
structure bJ(f0:Nat→Nat→Option Int)(o p least:Int)(es:List Fd):Prop where
 QA:∃ds f,Reach f0 o p least ds f∧Stop f o p least∧es.Perm ds
 uB:es.length≤20
 qB:es.Pairwise fun a b=>OM a b=true
inductive xm(CT CF CX:Addr)(vs:List V)(H:Hp)(Q:VK)(E:XK):Prop
 |mk (a b t:Addr) (c:Case) (_:vs=[.ref a, .ref b, .ref t]) (_:H a=some (.lst (c.xs.map V.str))) (_:H b=some (.lst (c.ys.map V.str))) (_:yE H CT t c) (_:c.xs.length≤50) (_:c.ys.length≤50)
  (_:∀es,bJ ZP c.out c.into c.least es→∀H' r us,av H H'→H r=none→H' r=some (.lst us)→cx (fun b=>H b=none) H' CF us es→Q (.ref r) H')
  (_:∀ds f,Reach ZP c.out c.into c.least ds f→20<ds.length→∀H',av H H'→E (.ref CX) none H'):xm CT CF CX vs H Q E
def FP(c:Case)(i m:Nat):Nat:=((X_ m).filter fun j=>(c.pw ZD).isSome).length
def manyN(c:Case):Nat→Nat
 |0=>0
 |n+1=>manyN c n+FP c n c.ys.length
theorem C0(c:Case)(i m:Nat):FP c i (m+1)=FP c i m+if (c.pw (aP (i,m))).isSome=true then 1 else 0:=by
 unfold FP;rw[List.range_succ,List.filter_append,List.length_append]
 congr 1
 by_cases h:(c.pw (aP (i,m))).isSome=true
 ·rw[HB h,List.filter_cons,HB h];rfl
 ·rw[Dt h,List.filter_cons,Dt h];rfl
theorem tY(c:Case):∀n,((uK n c.ys.length).filter fun q=>(c.pw q).isSome).length=manyN c n
 |0=>rfl
 |n+1=>by
  unfold uK;rw[List.range_succ,List.flatMap_append,List.filter_append,List.length_append];have ih:=tY c n;unfold uK at ih;rw[ih,manyN]
  congr 1
  simp only[List.flatMap_cons,List.flatMap_nil,List.append_nil];rw[List.filter_map,List.length_map];rfl
def bK(c:Case):Nat:=manyN c c.xs.length/21+1
def fY(c:Case):Int:=min c.same (999999/(bK c:Int))
def mZ(c:Case):Case:={c with same:=fY c,least:=max c.least (((bK c:Int)-1)*fY c+1)}
theorem Az(s t:Int)(fs:List Form)(x y:Str):(cY s fs x y).isSome=(cY t fs x y).isSome:=by
 unfold cY;split
 ·rfl
 ·simp
theorem C5(c:Case)(q:Pr):((mZ c).pw q).isSome=(c.pw q).isSome:=by
 unfold Case.pw;show((wd c.xs q.1).bind fun x=>(wd c.ys q.2).bind fun y=>cY (mZ c).same c.fs x y).isSome=_;cases wd c.xs q.1 with
 |none=>rfl
 |some x=>
  cases wd c.ys q.2 with
  |none=>rfl
  |some y=>exact Az _ _ _ _ _
theorem C9{fs:List Form}(g:bO fs=true){x y:Str}{p:Int}(h:dX fs x y=some p):0≤p:=by
 unfold dX at h;cases e:fs.find? fun f=>decide (f.1=x∧f.2.1=y)with
 |none=>rw[e]at h;cases h
 |some f=>
  rw[e]at h;have h:f.2.2=p:=by simpa using h
  have hm:=List.mem_of_find?_eq_some e;simp only[bO,Bool.and_eq_true,List.all_eq_true]at g;have:=g.1.2 f hm;simp only[Dx,iy,inR,Bool.and_eq_true,decide_eq_true_eq]at this
  lia
theorem pw_le{c:Case}(g:bO c.fs=true){q:Pr}{w:Int}(h:c.pw q=some w):w≤c.same:=by
 unfold Case.pw at h;cases e1:wd c.xs q.1 with
 |none=>rw[e1]at h;cases h
 |some x=>
  cases e2:wd c.ys q.2 with
  |none=>rw[e1,e2]at h;cases h
  |some y=>
   rw[e1,e2]at h;have h:cY c.same c.fs x y=some w:=h;unfold cY at h;split at h
   ·cases h;exact Int.le_refl _
   ·cases e3:dX c.fs x y with
    |none=>rw[e3]at h;cases h
    |some p=>
     rw[e3]at h;have h:c.same-p=w:=by simpa using h
     have:=C9 g e3
     lia
theorem BP(c:Case)(n:Nat):manyN c n≤n*c.ys.length:=by
 rw[←tY,←oX];exact List.length_filter_le _ _
theorem BQ{m:Nat}{c:Case}(k:eF m c)(hm:m≤60):eF m (mZ c):=by
 have h1:manyN c c.xs.length≤3600:=by
  have:=BP c c.xs.length;have h2:=Nat.mul_le_mul (ZN k.x hm) (ZN k.y hm)
  lia
 have he:(1:Int)≤bK c∧(bK c:Int)≤172:=by unfold bK;lia
 have hq:(bK c:Int)*(999999/(bK c:Int))≤999999:=by
  have:=Int.mul_ediv_self_le (x:=999999) (k:=(bK c:Int)) (by lia);exact this
 have ON:1≤999999/(bK c:Int):=by
  have:(172:Int)≤999999:=Nn;exact(Int.le_ediv_iff_mul_le D9).mpr D9
 have hs:=k.same;have hl:=k.least;have s1:1≤fY c∧fY c≤999999∧fY c≤999999/(bK c:Int):=by unfold fY;lia
 refine⟨k.x,k.y,k.good,⟨s1.1,s1.2.1⟩,k.out,k.into,?_⟩;show 1≤max c.least (((bK c:Int)-1)*fY c+1)∧max c.least (((bK c:Int)-1)*fY c+1)≤999999;have h3:((bK c:Int)-1)*fY c+1≤999999:=by
  have h4:(bK c:Int)*fY c≤(bK c:Int)*(999999/(bK c:Int)):=Int.mul_le_mul_of_nonneg_left s1.2.2 D9;rw[Int.sub_mul]
  lia
 lia
theorem jc{g g':Pr→Option Int}(o p:Int):∀{ps:List Pr},(∀q∈ps,g q=g' q)→vl g o p ps=vl g' o p ps
 |[],_=>rfl
 |[a],h=>by simp only[vl];rw[h a (IM)]
 |a::b::r,h=>by
  have ih:=jc (g:=g) (g':=g') o p (ps:=b::r) fun q hq=>h q (by simp[hq])
  simp only[vl];rw[ih,h a (IM)]
theorem C_{g g':Pr→Option Int}(o p:Int){ps:List Pr}(h:∀q∈ps,g q=g' q):zD g o p ps=zD g' o p ps:=by
 unfold zD;apply List.map_congr_left;intro k _;exact jc o p fun q hq=>h q (ui hq)
theorem Wy.congr{g g':Pr→Option Int}{ps:List Pr}(w:Wy g ps)(h:∀q∈ps,g q=g' q):Wy g' ps:=⟨w.ne,fun q hq=>by rw[←h q hq];exact w.ok q hq,w.up⟩
theorem LX{o p:Int}(ho:0≤o)(hp:0≤p){a b:Pr}(s:zw a b):0≤gp o p a b:=by
 have h1:=s.1;have h2:=s.2;have:=Int.mul_nonneg ho (show 0≤b.1-a.1-1 by lia);have:=Int.mul_nonneg hp (show 0≤b.2-a.2-1 by lia);unfold gp
 lia
theorem Jz{g:Pr→Option Int}{o p S:Int}(ho:0≤o)(hp:0≤p):∀{ps:List Pr},ps.Pairwise zw→(∀q∈ps,∃w,g q=some w∧w≤S)→vl g o p ps≤ps.length*S
 |[],_,_=>by simp[vl]
 |[a],_,h=>by
  obtain⟨w,h1,h2⟩:=h a (IM);simp[vl,h1,h2]
 |a::b::r,hs,h=>by
  have mU:=List.pairwise_cons.mp hs;have ih:=Jz ho hp mU.2 fun q hq=>h q (by simp[hq])
  obtain⟨w,h1,h2⟩:=h a (IM);have:=LX ho hp (mU.1 b (IM));simp only[vl,h1,Option.getD_some];have e:((a::b::r).length:Int)*S=((b::r).length:Int)*S+S:=by
   rw[List.length_cons (as:=b::r),Int.natCast_add,Int.add_mul];simp
  rw[e]
  lia
structure OO(f0:Nat→Nat→Option Int)(o p least:Int)(d:Fd):Prop where
 way:Wy (lf f0) d.way
 worth:vl (lf f0) o p d.way=d.worth
 least:least≤d.worth
 row:d.row=zD (lf f0) o p d.way
 sub:∀q∈d.way,q∈d.pairs
 qB:d.pairs.Pairwise fun p q=>ip p q=true
 op:∀q∈d.pairs,(lf f0 q).isSome=true
 part:∀a b,d.way=a++b→a≠[]→b≠[]→vl (lf f0) o p a≤d.worth∧vl (lf f0) o p b≤d.worth
theorem Reach.iA{f0 f:Nat→Nat→Option Int}{o p least:Int}{ds:List Fd}(r:Reach f0 o p least ds f):∀d∈ds,OO f0 o p least d:=by
 induction r with
 |start=>exact fun d h=>by cases h
 |@round done f W gs ds r R ih=>
  intro d hd;rcases List.mem_append.mp hd with hd|hd
  ·exact ih d hd
  have ap:=r.apart;have k:=R.ok d hd;have hg:d.pairs∈gs:=by rw[←R.FK];exact qV ⟨d,hd,rfl⟩
  have cg:∀q∈d.way,lf f q=lf f0 q:=fun q hq=>ap.sub q (k.way.1.ok q hq)
  refine⟨k.way.1.congr cg,?_,by rw[k.worth];exact R.least,by rw[k.row];exact C_ o p cg,k.sub,R.told.qB _ hg,fun q hq=>?_,fun a b e ha hb=>?_⟩
  ·rw[←jc o p cg,k.way.2,k.worth]
  ·have:=(R.told.mem hg hq).open;rw[←ap.sub q this];exact this
  ·have w:=k.way.1;rw[e]at w;rw[←jc o p (fun q hq=>cg q (by rw[e];exact Zw hq)),←jc o p (fun q hq=>cg q (by rw[e];exact ZI hq)),k.worth];exact⟨R.top _ (w.left ha),R.top _ (w.right hb)⟩
theorem Reach.met{f0 f:Nat→Nat→Option Int}{o p least:Int}{ds:List Fd}(r:Reach f0 o p least ds f){ws:List Pr}(w:Wy (lf f0) ws):(∀q∈ws,(lf f q).isSome=true)∨∃d∈ds,vl (lf f0) o p ws≤d.worth∧∃q∈ws,q∈d.pairs:=by
 induction r with
 |start=>exact .inl w.ok
 |@round done f W gs ds r R ih=>
  rcases ih with h|⟨d,h1,h2⟩
  ·have ap:=r.apart;by_cases hm:∃q∈ws,q∈gs.flatten
   ·obtain⟨q,hq,hg⟩:=hm;obtain⟨g,U_,XF⟩:=List.mem_flatten.mp hg;rw[←R.FK]at U_;obtain⟨d,hd,rfl⟩:=Zt U_;refine .inr ⟨d,ZI hd,?_,q,hq,XF⟩;have cg:∀q∈ws,lf f0 q=lf f q:=fun q hq=>(ap.sub q (h q hq)).symm
    rw[jc o p cg,(R.ok d hd).worth];exact R.top _ (w.congr cg)
   ·refine .inl fun q hq=>?_
    rw[mw,Dt (fun z=>hm ⟨q,hq,z⟩)];exact h q hq
  ·exact .inr ⟨d,Zw h1,h2⟩
theorem bJ.met{f0:Nat→Nat→Option Int}{o p least:Int}{es:List Fd}(t:bJ f0 o p least es){ws:List Pr}(w:Wy (lf f0) ws)(h:least≤vl (lf f0) o p ws):∃d∈es,vl (lf f0) o p ws≤d.worth∧∃q∈ws,q∈d.pairs:=by
 obtain⟨ds,f,r,st,pm⟩:=t.QA;rcases r.met w with z|⟨d,h1,h2⟩
 ·exfalso;have cg:∀q∈ws,lf f0 q=lf f q:=fun q hq=>(r.apart.sub q (z q hq)).symm
  have:=st ws (w.congr cg);rw[←jc o p cg]at this
  lia
 ·exact⟨d,pm.mem_iff.mpr h1,h2⟩
theorem bJ.iA{f0:Nat→Nat→Option Int}{o p least:Int}{es:List Fd}(t:bJ f0 o p least es):∀d∈es,OO f0 o p least d:=fun d hd=>by
 obtain⟨ds,f,r,_,pm⟩:=t.QA;exact r.iA d (pm.mem_iff.mp hd)
theorem bJ.apart{f0:Nat→Nat→Option Int}{o p least:Int}{es:List Fd}(t:bJ f0 o p least es):es.Pairwise fun a b=>∀q∈a.pairs,q∉b.pairs:=by
 obtain⟨ds,f,r,_,pm⟩:=t.QA;exact(pm.pairwise_iff fun{a b} h q hq FC=>h q FC hq).mpr r.apart.ap
theorem bJ.ne{f0:Nat→Nat→Option Int}{o p least:Int}{es:List Fd}(t:bJ f0 o p least es):∀d∈es,d.pairs≠[]:=fun d hd z=>by
 have k:=t.iA d hd;have:=k.sub _ (cR k.way.ne);rw[z]at this;cases this
theorem FQ{l:List (List Pr)}{k:Nat}(h:∀x∈l,k≤x.length):l.length*k≤l.flatten.length:=by
 induction l with
 |nil=>simp
 |cons a r ih=>
  have h1:=h a (IM);have h2:=ih fun x hx=>h x (by simp[hx])
  rw[List.flatten_cons,List.length_append,List.length_cons,Nat.succ_mul]
  lia
theorem nH:∀{ds:List Fd},ds.Pairwise (fun a b=>∀q∈a.pairs,q∉b.pairs)→(∀d∈ds,d.pairs.Nodup)→(ds.map Fd.pairs).flatten.Nodup
 |[],_,_=>IM
 |d::r,h,h2=>by
  have h':=List.pairwise_cons.mp h;rw[List.map_cons,List.flatten_cons];refine List.nodup_append.mpr ⟨h2 d (IM),nH h'.2 fun x hx=>h2 x (by simp[hx]),fun a ha b hb e=>?_⟩;obtain⟨ps,hp,hq⟩:=List.mem_flatten.mp hb;obtain⟨x,hx,rfl⟩:=Zt hp;exact h'.1 x hx a ha (by rw[e];exact hq)
theorem j_{ps:List Pr}(h:ps.Pairwise fun p q=>ip p q=true):ps.Nodup:=h.imp fun{a b} h e=>by
 rw[e]at h;unfold ip at h;simp at h
theorem tZ(c:Case)(q:Pr):lf ZP q=c.pw q:=by
 rw[w8];simp[oh]
inductive xn(vs:List V)(H:Hp)(Q:VK)(u3:XK):Prop
 |mk (a:Addr) (c:Case) (f g m l:Addr) (us:List V) (_:vs=[.ref a]) (_:jr H a c f g m l us) (_:eF 60 c) (_:∀H' b m',av H H'→H b=none→H' b=some (.lst [.ref f, .ref g, .ref m', .ref l])→jr H' b (mZ c) f g m' l us→Q (.ref b) H'):xn vs H Q u3
end QF
namespace QF
open PySem L2 PySem.Spec PyProof.Rows PySem.W PySem.Calls
section
variable{X:Cx}
inductive OP(K:Frag)(neg:Bool)(x:V)(y:V)(H:Hp)(Q:VK):Prop
 |mk (p q:Addr) (r:Pr) (vs:List V) (ps:List Pr) (_:x= .ref p) (_:y= .ref q) (_:H p=some (.tup (iE r))) (_:il K H q vs) (_:fK H vs ps) (_:Q (.bl (xor neg (decide (r∈ps)))) H):OP K neg x y H Q
open Classical in
theorem FT{pins:List (Addr×Obj)}{s:Shared}{σ:L2.St}{H:Hp}{p q:Addr}{r:Pr}{vs:List V}{ps:List Pr}(hu:X.A.units+1<cLine)(I:Inv X pins σ H s)(hp:H p=some (.tup (iE r)))(hq:il X.K H q vs)(P:fK H vs ps):
  ∃(its:List Value)(e:Value→Bool),s.heap.IsList q its.toArray∧(∀y∈its.toArray,SeqAt.EqAt X.A.in1 s y (.ref p) (e y))∧its.toArray.any e=decide (r∈ps):=by
 obtain⟨its,r1,pl,hz⟩:=I.tuple (xs:=iE r) (.of hp);obtain⟨dB,r2,Hl,Je⟩:=I.list hq;have lc:=P.1;have l2:=r2.length;have key:∀j,j<dB.length→∃g t,ps[j]?=some g∧dB[j]?=some (.ref t)∧H t=some (.tup (iE g)):=fun j hj=>by
  have hc:ps[j]?=some ps[j]:=by simp[show j<ps.length by lia]
  obtain⟨t,h1,h2⟩:=P.2 j _ hc;obtain⟨u,eu,ru⟩:=r2.get h1;cases ru;exact⟨_,t,hc,eu,h2⟩
 let e:Value→Bool:=fun y=>decide (∃t,y=Value.ref t∧H t=some (.tup (iE r)))
 have ee:∀{t g},H t=some (.tup (iE g))→e (.ref t)=decide (g=r):=fun{t g} h=>by
  show decide _=_;rw[Bool.eq_iff_iff,decide_eq_true_iff,decide_eq_true_iff];constructor
  ·rintro⟨t',e1,e2⟩;cases e1;rw[h]at e2;have:=HO.tup.inj (WK e2);simp only[iE,List.cons.injEq,V.int.injEq,and_true]at this;exact Prod.ext this.1 this.2
  ·rintro rfl;exact⟨t,rfl,h⟩
 refine⟨dB,e,Hl.isList,fun y hy=>?_,?_⟩
 ·obtain⟨j,hj,rfl⟩:=Array.mem_iff_getElem.mp hy;have yS:j<dB.length:=by simpa using hj
  obtain⟨g,t,h1,h2,h3⟩:=key j yS;have ej:dB.toArray[j]= .ref t:=by
   have:=(ZX h2).2;simpa using this
  rw[ej,ee h3];by_cases hn:t=p
  ·subst hn;rw[hp]at h3;have:=HO.tup.inj (WK h3);simp only[iE,List.cons.injEq,V.int.injEq,and_true]at this;have:r=g:=Prod.ext this.1 this.2;rw[Zn this.symm];exact SeqAt.EqAt.same _
  ·obtain⟨OQ,r3,OR,XG⟩:=I.tuple (xs:=iE g) (.of h3);have:=SeqAt.EqAt.of_refs hn (SeqAt.RcAt.tuples (A:=X.A.in1) OR pl (show X.A.in1.units<cLine from hu) (tF r3 r1 rfl rfl));rw[←w6,←kC,r3.length,r1.length];simpa using this
 ·rw[Bool.eq_iff_iff,Array.any_eq_true,decide_eq_true_iff];constructor
  ·rintro⟨j,hj,hh⟩;have yS:j<dB.length:=by simpa using hj
   obtain⟨g,t,h1,h2,h3⟩:=key j yS;have ej:dB.toArray[j]= .ref t:=by
    have:=(ZX h2).2;simpa using this
   rw[ej,ee h3,decide_eq_true_iff]at hh;rw[←hh];exact WI h1
  ·intro hm;obtain⟨j,hj,hg⟩:=Α hm;have yS:j<dB.length:=by lia
   obtain⟨g,t,h1,h2,h3⟩:=key j yS;refine⟨j,by simpa using yS,?_⟩;have ej:dB.toArray[j]'(by simpa using yS)= .ref t:=by
    have:=(ZX h2).2;simpa using this
   rw[ej,ee h3,decide_eq_true_iff];rw[ZQ hj,hg]at h1;exact(WK h1).symm
theorem m3(K:Frag)(hu:X.A.units+1<cLine)(hK:X.K=K:=by rfl):rM X (compareOp .NotIn) (OP K true):=by
 subst hK;intro pins s σ H x y v u Q I rx ry h;obtain⟨p,q,r,vs,ps,rfl,rfl,hp,hq,P,k⟩:=h;cases rx;cases ry;obtain⟨its,e,pl,h1,h2⟩:=FT hu I hp hq P;refine SeqAt.notIn_listAt e pl h1 ⟨.bl (!decide (r∈ps)),H,I,?_,by simpa using k⟩;rw[h2];rfl
end
end QF
namespace QF
open PySem L2
theorem oQ.of{c:Case}{ps:List Pr}(h:kZ c ps=true):oQ c [] ps:=⟨h,fun p _=>IM⟩
theorem HY{c:Case}{ps:List Pr}(h:kZ c ps=true):Wy (lf ZP) ps∧dE c ps (ps.length-1)=vl (lf ZP) c.out c.into ps:=⟨yJ.mp (.of h),Hz (.of h)⟩
end QF
namespace L2
open PySem PySem.Spec PyProof.Rows PySem.W PySem.Calls
inductive fO(K:Frag)(x q:Str)(st:Stmt)(f:Addr):Prop
 |mk {oc kV dc pm cd ct:Value} {od an:Option Addr} {sl:Array (Option Value)} (l:K.lookup f=some ⟨oc,od, .func (fnOf x q (fG st) (eJ st) (au st) .none kV dc pm an cd ct),sl⟩) (c:codeIn K cd q=true) (k:keepIn K (.ref f)=true):fO K x q st f
theorem BR{Φ:Value→Value→Value→Option Addr→Value→Value→List Value→Prop}(h:∀k d p n c t a,Φ k d p n c t [a])(k d p:Value)(n:Option Addr)(c t:Value)(us:List Value)(e:us.length=1):Φ k d p n c t us:=QF.aaF (h k d p n c t) us e
theorem yd{Φ:Value→Value→Value→Option Addr→Value→Value→List Value→Prop}(h:∀k d p n c t a b,Φ k d p n c t [a,b])(k d p:Value)(n:Option Addr)(c t:Value)(us:List Value)(e:us.length=2):Φ k d p n c t us:=QF.W6 (h k d p n c t) us e
theorem AA{Φ:Value→Value→Value→Option Addr→Value→Value→List Value→Prop}(h:∀k d p n c t x y z,Φ k d p n c t [x,y,z])(k d p:Value)(n:Option Addr)(c t:Value)(us:List Value)(e:us.length=3):Φ k d p n c t us:=QF.W7 (h k d p n c t) us e
theorem SU{Φ:Value→Value→Value→Option Addr→Value→Value→List Value→Prop}(h:∀k d p n c t x y z u,Φ k d p n c t [x,y,z,u])(k d p:Value)(n:Option Addr)(c t:Value)(us:List Value)(e:us.length=4):Φ k d p n c t us:=QF.W8 (h k d p n c t) us e
theorem U'{Φ:Value→Value→Value→Option Addr→Value→Value→List Value→Prop}(h:∀k d p n c t x y z u v,Φ k d p n c t [x,y,z,u,v])(k d p:Value)(n:Option Addr)(c t:Value)(us:List Value)(e:us.length=5):Φ k d p n c t us:=QF.W9 (h k d p n c t) us e
theorem XH{Φ:Value→Value→Value→Option Addr→Value→Value→List Value→Prop}(h:∀k d p n c t x y z u v w,Φ k d p n c t [x,y,z,u,v,w])(k d p:Value)(n:Option Addr)(c t:Value)(us:List Value)(e:us.length=6):Φ k d p n c t us:=QF.W_ (h k d p n c t) us e
section
variable{P:Program}{w:World}{K:Frag}{mg:Str→Option Value}{base h:Heap}{cm:Bool}{k:Nat}{x q:Str}{st:Stmt}{f C:Addr}{ps:List Str}{sp:Sp}
def QB(x q:Str)(st:Stmt)(ps:List Str):Prop:=∀(kV doc pm:Value)(an:Option Addr)(bV ct:Value)(us:List Value),us.length=ps.length→bindArgs (fnOf x q (fG st) (eJ st) (au st) .none kV doc pm an bV ct) ⟨us,[]⟩=pure (ps.zip us)
theorem fO.df(d:fO K x q st f)(X:K.In h)(G:h.Ns mainGlobals mg)(a:nsIn K mainGlobals x=some (some (.ref f)))(ok:∀fd,jN K x q st f fd→aZ P w K mg base (dz P w) cm k f fd ps sp)(b:QB x q st ps):bM P w K mg base cm k x ps sp:=by
 obtain⟨l,c,z⟩:=d;have F:=Ej (st:=st) l c z;exact Es F (mg_of X G a) (F.binds b) (ok _ F)
theorem fO.ok(d:fO K x q st f){R:FuncData→Prop}(ok:∀fd,iu K x q st f fd→R fd)(b:QB x q st ps):∃fd,R fd∧Binds K fd ps []:=by
 obtain⟨l,c,z⟩:=d;exact⟨_,ok _ (Bh (st:=st) l c z), .all fun us e=>b _ _ _ _ _ _ us e⟩
theorem fO.mt(d:fO K x q st f)(cl:wg K C)(a:findIn K (.ref C) x=some (some (.ref f)))(i:isFn K (.ref f)=true)(ok:∀fd,iu K x q st f fd→aZ P w K mg base (dz P w) cm k f fd ps sp)(b:QB x q st ps):eE P w K mg base cm k C x ps sp:=by
 obtain⟨fd,h1,h2⟩:=d.ok (R:=fun fd=>aZ P w K mg base (dz P w) cm k f fd ps sp) ok b;obtain⟨l,c,z⟩:=d;exact Cs h1 ⟨a,i,z⟩ h2 cl
theorem fO.nw{y:Str}(d:fO K x q st f)(m:mg y=some (.ref C))(g1:makesIn K C=true)(g2:keepIn K (.ref C)=true)(a:findIn K (.ref C) "__init__"=some (some (.ref f)))(i:isFn K (.ref f)=true)(ok:∀fd,iu K x q st f fd→aZ P w K mg base (dz P w) cm k f fd ps sp)(b:QB x q st ps):mS P w K mg base cm k y C ps [] sp:=by
 obtain⟨fd,h1,h2⟩:=d.ok (R:=fun fd=>aZ P w K mg base (dz P w) cm k f fd ps sp) ok b;exact yA h1 ⟨g1,a,i,g2⟩ m h2 .nil
structure OS(K:Frag)(x:Str)(C:Addr):Prop where
 a:nsIn K mainGlobals x=some (some (.ref C))
 b:excIn K C [.type "ValueError", .type "Exception", .type "BaseException", .type "object"] "ValueError.__new__"=true
 c:findIn K (.ref C) "__class__"=some (some (.builtin "object.__class__"))
 d:mroIn K C (.type "object")=some true
 e:mroIn K C (.type "BaseException")=some true
 f:findIn K (.ref C) "__getattribute__"=some (some (.builtin "BaseException.__getattribute__"))
 g:findIn K (.ref C) "__getattr__"=some none
 h:instIn K (.ref C) (.type "tuple")=some false
 i:keepIn K (.ref C)=true
theorem OS.er{x:Str}{C:Addr}(e:OS K x C)(X:K.In h)(G:h.Ns mainGlobals mg):QF.Er K mg x C:=⟨mg_of X G e.a,e.b,e.c,e.d,e.e,e.f,e.g,e.h,e.i⟩
structure OT(K:Frag)(x:Str)(C:Addr):Prop where
 a:nsIn K mainGlobals x=some (some (.ref C))
 b:makesIn K C=true
 c:keepIn K (.ref C)=true
def zE(K:Frag)(x:Str):Prop:=nsIn K mainGlobals x=some none
structure TZ(K:Frag):Prop where
 a:zE K "len"
 b:zE K "range"
 c:zE K "isinstance"
 d:zE K "int"
 e:zE K "bool"
 f:zE K "str"
 g:zE K "list"
 h:zE K "tuple"
 i:zE K "dict"
 j:zE K "all"
 k:zE K "any"
 l:zE K "min"
 m:zE K "max"
 n:zE K "enumerate"
 o:zE K "ValueError"
theorem nJ{x:Str}(z:zE K x)(X:K.In h)(G:h.Ns mainGlobals mg):mg x=none:=mg_none_of X G z
theorem TZ.tb(z:TZ K)(X:K.In h)(G:h.Ns mainGlobals mg):QF.TB mg:=⟨nJ z.a X G,nJ z.b X G,nJ z.c X G,nJ z.d X G,nJ z.e X G,nJ z.f X G,nJ z.g X G,nJ z.h X G,nJ z.i X G,nJ z.j X G,nJ z.k X G,nJ z.l X G,nJ z.m X G,nJ z.n X G,nJ z.o X G⟩
end
end L2
namespace QF
open PySem L2
def DF(H:Hp)(us:List V)(ts:List (Pr×Int)):Prop:=us.length=ts.length∧∀(k:Nat)(x:Pr×Int),ts[k]?=some x→∃t,us[k]?=some (V.ref t)∧H t=some (.tup [.int x.1.1, .int x.1.2, .int x.2])
theorem DF.cA{H H':Hp}{us:List V}{ts:List (Pr×Int)}(S:DF H us ts)(t:cO H H'):DF H' us ts:=⟨S.1,fun k x e=>let ⟨a,h1,h2⟩:=S.2 k x e;⟨a,h1,t _ _ h2⟩⟩
theorem DF.nil{H:Hp}:DF H [] []:=⟨rfl,fun k x e=>by simp at e⟩
theorem DF.snoc{H:Hp}{us:List V}{ts:List (Pr×Int)}(S:DF H us ts){t:Addr}{x:Pr×Int}(h:H t=some (.tup [.int x.1.1, .int x.1.2, .int x.2])):DF H (us++[.ref t]) (ts++[x]):=by
 refine⟨by simp[S.1],fun k y e=>?_⟩;by_cases hk:k<ts.length
 ·rw[ZA hk]at e;rw[ZA (by rw[S.1];exact hk)];exact S.2 k y e
 ·rw[ZF D9]at e;have xa:k-ts.length=0:=by
   have:=(ZX e).1;simp at this;lia
  rw[xa]at e;cases e;refine⟨t,?_,h⟩;rw[ZF (by rw[S.1];lia),S.1,xa];rfl
def lL(c:Case)(sh:List Pr)(i:Nat):Nat→List (Pr×Int)
 |0=>[]
 |j+1=>lL c sh i j++match oh c sh ZD with|some w=>[(aP (i,j),w)]|none=>[]
def ka(c:Case)(sh:List Pr):Nat→List (Pr×Int)
 |0=>[]
 |n+1=>ka c sh n++lL c sh n c.ys.length
theorem qJ(c:Case)(sh:List Pr)(i:Nat):∀j,(lL c sh i j).length≤j
 |0=>Nat.le_refl _
 |j+1=>by
  have:=qJ c sh i j;simp only[lL,List.length_append];split<;>simp<;>lia
theorem vV(c:Case)(sh:List Pr):∀n,(ka c sh n).length≤n*c.ys.length
 |0=>by simp[ka]
 |n+1=>by
  have:=vV c sh n;have:=qJ c sh n c.ys.length;simp only[ka,List.length_append,Nat.succ_mul]
  lia
theorem vW{c:Case}{sh:List Pr}{i:Nat}{x:Pr×Int}:∀{j},x∈lL c sh i j→oh c sh x.1=some x.2
 |0,h=>by cases h
 |j+1,h=>by
  rcases List.mem_append.mp h with h|h
  ·exact vW h
  ·split at h
   ·rename_i w e
    have:x=(aP (i,j),w):=by simpa using h
    rw[this];exact e
   ·cases h
theorem vX{c:Case}{sh:List Pr}{x:Pr×Int}:∀{n},x∈ka c sh n→oh c sh x.1=some x.2
 |0,h=>by cases h
 |n+1,h=>by
  rcases List.mem_append.mp h with h|h
  ·exact vX h
  ·exact vW h
inductive t5(vs:List V)(H:Hp)(Q:VK)(u3:XK):Prop
 |mk (a s:Addr) (c:Case) (f g m l:Addr) (us ws:List V) (sh:List Pr) (_:vs=[.ref a, .ref s]) (_:jr H a c f g m l us) (_:H s=some (.lst ws)) (_:fK H ws sh) (_:c.xs.length≤50) (_:c.ys.length≤50) (_:∀H' r vs,av H H'→H r=none→H' r=some (.lst vs)→DF H' vs (ka c sh c.xs.length)→Q (.ref r) H'):t5 vs H Q u3
inductive t6(CF:Addr)(vs:List V)(H:Hp)(Q:VK)(u3:XK):Prop
 |mk (y:Addr) (P:Addr→Prop) (d:Fd) (dy wy rw pr:Addr) (kG iq:List V) (_:vs=[.ref y]) (_:vU P H CF y d dy wy rw pr kG iq) (_:d.row.length=d.way.length) (_:d.way≠[]) (_:∀H',av H H'→Q (.bl true) H'):t6 CF vs H Q u3
inductive qK(CF:Addr)(vs:List V)(H:Hp)(Q:VK)(u3:XK):Prop
 |mk (a t:Addr) (c:Case) (f g m l:Addr) (us ws:List V) (es:List Fd) (_:vs=[.ref a, .ref t]) (_:jr H a c f g m l us) (_:eF 50 c) (_:H t=some (.lst ws)) (_:cx (fun _=>True) H CF ws es) (_:bJ ZP c.out c.into c.least es) (_:∀H',av H H'→Q (.bl true) H'):qK CF vs H Q u3
theorem FU{c:Case}{ps:List Pr}(w:Wy (lf ZP) ps):kZ c ps=true:=(yJ.mpr w).1
theorem HZ(g:Pr→Option Int)(o p:Int)(ps:List Pr):(zD g o p ps).length=ps.length:=by simp[zD]
theorem bJ.pair{c:Case}{es:List Fd}(t:bJ ZP c.out c.into c.least es){q:Pr}{w:Int}(h:oh c [] q=some w)(hl:c.least≤w):∃d∈es,q∈d.pairs:=by
 have hq:lf ZP q=some w:=by rw[w8];exact h
 obtain⟨d,hd,_,p,hp,Cg⟩:=t.met (ws:=[q]) (.one (by rw[hq];rfl)) (by simp[vl,hq];exact hl);have:p=q:=by simpa using hp
 exact⟨d,hd,this▸Cg⟩
theorem bJ.FV{m:Nat}{c:Case}(ok:eF m c){es:List Fd}(t:bJ ZP c.out c.into c.least es){ds:List Fd}(hs:ds.Sublist es):(ds.map Fd.pairs).flatten.length≤m*m:=by
 have h2:=nH (t.apart.sublist hs) fun d hd=>j_ (t.iA d (hs.subset hd)).qB
 have h3:=len_sub _ (uK c.xs.length c.ys.length) h2 fun q hq=>by
  obtain⟨ps,hp,hq⟩:=List.mem_flatten.mp hq;obtain⟨d,hd,rfl⟩:=Zt hp;have:=(t.iA d (hs.subset hd)).op q hq;rw[tZ]at this;obtain⟨w,hw⟩:=Option.isSome_iff_exists.mp this;obtain⟨⟨a1,a2⟩,a3,a4⟩:=c.pw_in hw;have:=oY (n:=c.xs.length) (m:=c.ys.length) (i:=q.1.toNat) (j:=q.2.toNat) (by lia) (by lia);have e:aP (q.1.toNat,q.2.toNat)=q:=Prod.ext (by simp[aP];lia) (by simp[aP];lia);rw[e]at this;exact this
 rw[oX]at h3;exact ZN h3 (Nat.mul_le_mul ok.x ok.y)
end QF
namespace L2
open PySem PySem.Spec PyProof.Rows PySem.W PySem.Calls
open AutoSeq1 (wpAny_loadPart')
end L2
namespace QF
open PySem L2 PySem.Spec PyProof.Rows PySem.W PySem.Calls
section
variable{X:Cx}
theorem OU{pins:List (Addr×Obj)}{s:Shared}{σ:L2.St}{H:Hp}{p:Addr}{r:Pr}(I:Inv X pins σ H s)(hp:H p=some (.tup (iE r))):iK s.heap p r:=by
 obtain⟨its,rr,pl,hz⟩:=I.tuple (xs:=iE r) (.of hp);cases rr with
 |cons r1 rr=>
  cases rr with
  |cons r2 rr=>
   cases rr;obtain⟨t,rfl⟩:=r1;obtain⟨u,rfl⟩:=r2;obtain⟨o,h1,h2,n,h3⟩:=pl;exact⟨o,t,u,n,h1,h2,h3⟩
end
def lM(es:List Fd)(k:Nat):List Pr:=((es.take k).map Fd.pairs).flatten
theorem o6{es:List Fd}{k:Nat}{d:Fd}(ek:es[k]?=some d):lM es (k+1)=lM es k++d.pairs:=by
 unfold lM;rw[List.take_succ,ek];simp
theorem H_{es:List Fd}{k:Nat}{q:Pr}(h:q∈lM es k):∃d∈es.take k,q∈d.pairs:=by
 obtain⟨ps,hp,hq⟩:=List.mem_flatten.mp h;obtain⟨d,hd,rfl⟩:=Zt hp;exact⟨d,hd,hq⟩
theorem LY{es:List Fd}{d:Fd}{q:Pr}(hd:d∈es)(hq:q∈d.pairs):q∈lM es es.length:=by
 unfold lM;rw[List.take_length];exact List.mem_flatten.mpr ⟨_,qV ⟨d,hd,rfl⟩,hq⟩
theorem bJ.Ia{c:Case}{es:List Fd}(t:bJ ZP c.out c.into c.least es){k:Nat}{d:Fd}(ek:es[k]?=some d){q:Pr}(hq:q∈d.pairs):q∉lM es k:=fun h=>by
 obtain⟨e,he,h2⟩:=H_ h;obtain⟨hk,rfl⟩:=ZX ek;obtain⟨i,hi,rfl⟩:=Α he;rw[List.length_take]at hi;rw[List.getElem_take]at h2;exact List.pairwise_iff_getElem.mp t.apart i k (by lia) hk D9 q h2 hq
theorem bJ.AB{m:Nat}{c:Case}(ok:eF m c){es:List Fd}(t:bJ ZP c.out c.into c.least es)(k:Nat):(lM es k).length≤m*m:=t.FV ok (List.take_sublist _ _)
theorem Ib{α:Type}{l:List α}{i:Nat}{g:α}(h:l.Nodup)(e:l[i]?=some g):g∉l.take i:=fun m=>by
 obtain⟨hi,rfl⟩:=ZX e;obtain⟨j,hj,e2⟩:=Α m;rw[List.length_take]at hj;rw[List.getElem_take]at e2;exact List.pairwise_iff_getElem.mp h j i D9 hi D9 e2
theorem FW{kvs:List (List Key×V)}{ps:List Pr}(h:mW kvs ps)(g:Pr)(v:V):mW (putK kvs (a8 g) v) (ps++[g]):=fun p=>by
 rw[i7];by_cases hp:p=g
 ·rw[HB (by rw[hp])];simp[hp]
 ·rw[Dt (fun z=>hp (dh z)),h p];simp[hp]
theorem xo{α:Type}{R:α→α→Prop}(as:∀a b,R a b→¬R b a):∀{l m:List α},l.Pairwise R→m.Pairwise R→(∀x,x∈l↔x∈m)→l=m
 |[],[],_,_,_=>rfl
 |[],b::m,_,_,h=>by have:=(h b).mpr Mi;cases this
 |a::l,[],_,_,h=>by have:=(h a).mp Mi;cases this
 |a::l,b::m,hl,hm,h=>by
  have JA:=List.pairwise_cons.mp hl;have Cq:=List.pairwise_cons.mp hm;have e:a=b:=by
   rcases List.mem_cons.mp ((h a).mp Mi)with e|e
   ·exact e
   ·rcases List.mem_cons.mp ((h b).mpr Mi)with e2|e2
    ·exact e2.symm
    ·exact V' (Cq.1 a e) (as _ _ (JA.1 b e2))
  subst e
  congr 1
  refine xo as JA.2 Cq.2 fun x=>⟨fun hx=>?_,fun hx=>?_⟩
  ·rcases List.mem_cons.mp ((h x).mp (by simp[hx]))with e|e
   ·subst e;exact V' (JA.1 x hx) (as _ _ (JA.1 x hx))
   ·exact e
  ·rcases List.mem_cons.mp ((h x).mpr (by simp[hx]))with e|e
   ·subst e;exact V' (Cq.1 x hx) (as _ _ (Cq.1 x hx))
   ·exact e
theorem LZ(p q:Pr)(h:ip p q=true):¬ip q p=true:=fun z=>by rw[Al h]at z;cases z
abbrev Ky:=Int×List Pr
inductive Rn(o p least:Int):(Nat→Nat→Option Int)→List Fd→Prop
 |stop {f:Nat→Nat→Option Int} (_:Stop f o p least):Rn o p least f []
 |round {f:Nat→Nat→Option Int} {W:Int} {gs:List (List Pr)} {ds rs:List Fd} (_:jv f o p least W gs ds) (_:Rn o p least (j9 f gs.flatten) rs):Rn o p least f (ds++rs)
theorem Reach.rn{f0 f:Nat→Nat→Option Int}{o p least:Int}{ds rs:List Fd}(r:Reach f0 o p least ds f)(h:Rn o p least f rs):Rn o p least f0 (ds++rs):=by
 induction r generalizing rs with
 |start=>exact h
 |round _ R ih=>rw[List.append_assoc];exact ih (.round R h)
theorem bJ.rn{f0:Nat→Nat→Option Int}{o p least:Int}{es:List Fd}(t:bJ f0 o p least es):∃ds,Rn o p least f0 ds∧es.Perm ds:=by
 obtain⟨ds,f,r,st,pm⟩:=t.QA;have:=r.rn (.stop st);rw[List.append_nil]at this;exact⟨ds,this,pm⟩
def y6(H:Hp)(ws:List V)(ks:List Ky):Prop:=ws.length=ks.length∧∀(i:Nat)(x:Ky),ks[i]?=some x→∃t l us,ws[i]?=some (V.ref t)∧H t=some (.tup [.int x.1, .ref l])∧H l=some (.lst us)∧fK H us x.2
section
variable{X:Cx}
inductive Fp(K:Frag)(x:V)(y:V)(H:Hp)(Q:VK):Prop
 |mk (p q:Addr) (xs ys:List V) (ps:List Pr) (_:x= .ref p) (_:y= .ref q) (_:il K H p xs) (_:il K H q ys) (_:fK H xs ps) (_:fK H ys ps) (_:Q (.bl false) H):Fp K x y H Q
theorem AD(K:Frag)(hu:X.A.units+1<cLine)(hK:X.K=K:=by rfl):rM X (compareOp .NotEq) (Fp K):=by
 subst hK;intro pins s σ H x y v u Q I rx ry h;obtain⟨p,q,xs,ys,ps,rfl,rfl,hp,hq,P1,P2,k⟩:=h;cases rx;cases ry;obtain⟨its,r,pl,hz⟩:=I.list hp;obtain⟨dB,r2,Hl,Je⟩:=I.list hq;have l1:=r.length;have l2:=r2.length;have c1:=P1.1;have c2:=P2.1;obtain⟨⟨cls,dd,data,sl⟩,ho,hc,n,hd⟩:=id pl.isList;obtain⟨⟨EC,rO,data2,mR⟩,sE,qc,n2,hd2⟩:=id Hl.isList;simp only at hc hd qc hd2;subst hc hd qc hd2;have hsz:its.toArray.size=dB.toArray.size:=by rw[List.size_toArray,List.size_toArray];lia
 refine richCompare_meets_room (op:= .NotEq) ⟨_,ho,rfl⟩ ⟨_,sE,rfl⟩ F.slot_list_ne F.entry_list_ne (F.args_list_ne_2 _ _) (SeqAt.list_neAt p q its.toArray dB.toArray n n2 dd rO sl mR hsz fun _=>true) ⟨ho,sE,fun j h1 h2=>?_,?_⟩ D9
 ·have Jg:j<ps.length:=by simp at h1;lia
  have ej:ps[j]?=some ps[j]:=by simp[Jg]
  generalize ps[j]=g at ej;obtain⟨a1,e1,g1⟩:=P1.2 j g ej;obtain⟨a2,e2,g2⟩:=P2.2 j g ej;obtain⟨u1,XI,XJ⟩:=r.get e1;obtain⟨u2,XM,XN⟩:=r2.get e2;cases XJ;cases XN;have k1:its.toArray[j]= .ref a1:=by simpa[List.getElem?_eq_some_iff]using(ZX XI).2
  have k2:dB.toArray[j]= .ref a2:=by simpa[List.getElem?_eq_some_iff]using(ZX XM).2
  rw[k1,k2];by_cases ha:a1=a2
  ·subst ha;exact SeqAt.EqAt.same _
  ·obtain⟨OQ,r3,OR,XG⟩:=I.tuple (xs:=iE g) (.of g1);obtain⟨SV,r4,XO,aas⟩:=I.tuple (xs:=iE g) (.of g2);have:=SeqAt.EqAt.of_refs ha (SeqAt.RcAt.tuples (A:=X.A.in1) OR XO (show X.A.in1.units<cLine from hu) (tF r3 r4 rfl rfl));have e9:true=decide (g=g):=IM;have h3:OQ.toArray.size=(iE g).length:=by rw[List.size_toArray,←r3.length]
   have h4:SV.toArray.size=(iE g).length:=by rw[List.size_toArray,←r4.length]
   rw[h3,h4]at this;rw[e9,←w6,←kC];exact this
 ·refine⟨(fun x=>nomatch x), .bl false,H,I,?_,k⟩;have e9:((X_ its.toArray.size).all fun _=>true)=true:=IM;rw[e9];rfl
end
end QF
namespace QF
open PySem L2
def Va(c:Case):Prop:=∀ds f,Reach ZP c.out c.into c.least ds f→ds.length≤20
inductive xp(CF:Addr)(vs:List V)(H:Hp)(Q:VK)(u3:XK):Prop
 |mk (a:Addr) (c:Case) (f g m l:Addr) (us:List V) (most:Nat) (_:vs=[.ref a]) (_:jr H a c f g m l us) (_:eF most c) (_:most≤50) (_:Va c) (_:∀es,bJ ZP c.out c.into c.least es→∀H' r vs,av H H'→H r=none→H' r=some (.lst vs)→cx (fun _=>True) H' CF vs es→Q (.ref r) H'):xp CF vs H Q u3
def k_(H:Hp)(S:Addr)(ws:List V)(ks:List Ky):Prop:=ws.length=ks.length∧∀(i:Nat)(x:Ky),ks[i]?=some x→∃t l us,ws[i]?=some (V.ref t)∧H t=some (.tup [.int x.1, .ref l])∧H l=some (.lst us)∧fK H us x.2∧l≠S
theorem k_.OW{H:Hp}{S:Addr}{ws:List V}{ks:List Ky}(D:k_ H S ws ks):y6 H ws ks:=⟨D.1,fun i x e=>let ⟨t,l,us,h1,h2,h3,P,_⟩:=D.2 i x e;⟨t,l,us,h1,h2,h3,P⟩⟩
theorem k_.nil{H:Hp}{S:Addr}:k_ H S [] []:=⟨rfl,fun i x e=>by simp at e⟩
theorem k_.keep{H H':Hp}{S:Addr}{ws:List V}{ks:List Ky}(D:k_ H S ws ks)(h:∀b o,b≠S→H b=some o→H' b=some o)(T:cO H H'):k_ H' S ws ks:=
 ⟨D.1,fun i x e=>let ⟨t,l,us,h1,h2,h3,P,n⟩:=D.2 i x e;⟨t,l,us,h1,T _ _ h2,h l _ n h3,P.cA T,n⟩⟩
theorem k_.snoc{H:Hp}{S:Addr}{ws:List V}{ks:List Ky}(D:k_ H S ws ks){t l:Addr}{us:List V}{x:Ky}(h1:H t=some (.tup [.int x.1, .ref l]))(h2:H l=some (.lst us))(P:fK H us x.2)(n:l≠S):k_ H S (ws++[.ref t]) (ks++[x]):=by
 refine⟨by simp[D.1],fun k y e=>?_⟩;by_cases hk:k<ks.length
 ·rw[ZA hk]at e;rw[ZA (by rw[D.1];exact hk)];exact D.2 k y e
 ·rw[ZF D9]at e;have xa:k-ks.length=0:=by
   have:=(ZX e).1;simp at this;lia
  rw[xa]at e;cases e;refine⟨t,l,us,?_,h1,h2,P,n⟩;rw[ZF (by rw[D.1];lia),D.1,xa];rfl
end QF
namespace L2
open PySem PySem.Spec PyProof.Rows PySem.W PySem.Calls
open AutoSeq1 (wpAny_loadPart')
end L2
namespace QF
open PySem L2 PySem.Spec PyProof.Rows PySem.W PySem.Calls
section
variable{X:Cx}
end
end QF
namespace QF
open PySem L2
end QF
namespace QF
open PySem L2
section
variable{m:Nat}{c:Case}
end
structure Mv(φ ψ:Pr→Pr)(o p o' p':Int):Prop where
 l:∀q,ψ (φ q)=q
 r:∀q,φ (ψ q)=q
 go:∀(u:Pr→Option Int) ps,Wy u ps→∃qs,Wy (fun q=>u (ψ q)) qs∧vl (fun q=>u (ψ q)) o' p' qs=vl u o p ps∧∀q,q∈qs↔ψ q∈ps
section
variable{φ ψ:Pr→Pr}{o p o' p' W least:Int}{f g:Nat→Nat→Option Int}
theorem Mv.bw(m:Mv φ ψ o p o' p')(h:∀q,lf g q=lf f (ψ q)){ps:List Pr}(b:BW f o p W ps):∃qs,BW g o' p' W qs∧∀q,q∈qs↔ψ q∈ps:=by
 obtain⟨qs,h1,h2,h3⟩:=m.go Y6 ps b.1;have e:(fun q=>lf f (ψ q))=lf g:=funext fun q=>(h q).symm
 rw[e]at h1 h2;exact⟨qs,⟨h1,h2.trans b.2⟩,h3⟩
theorem Mv.FG(m:Mv φ ψ o p o' p')(h:∀q,lf g q=lf f (ψ q)){a b:Pr}(k:fB f o p W a b):fB g o' p' W (φ a) (φ b):=by
 induction k with
 |way ps w ha hb=>
  obtain⟨qs,w',hm⟩:=m.bw h w;exact .way qs w' ((hm _).mpr (by rw[m.l];exact ha)) ((hm _).mpr (by rw[m.l];exact hb))
 |tr _ _ i1 i2=>exact .tr i1 i2
theorem Mv.rel(m:Mv φ ψ o p o' p')(h:∀q,lf g q=lf f (ψ q))(q:Pr):lf f q=lf g (φ q):=by rw[h,m.l]
theorem Mv.groups(m:Mv φ ψ o p o' p')(m':Mv ψ φ o' p' o p)(h:∀q,lf g q=lf f (ψ q)){gs hs:List (List Pr)}(t:Told (fB f o p W) gs)(t':Told (fB g o' p' W) hs):∀x∈gs,∃y∈hs,∀q,q∈y↔ψ q∈x:=fun x hx=>by
 obtain⟨a,ha⟩:=List.exists_mem_of_ne_nil x (t.ne x hx);obtain⟨y,hy,hb⟩:=t'.all (φ a) (m.FG h (t.mem hx ha));refine⟨y,hy,fun q=>?_⟩;rw[t'.cls y hy _ hb q,t.cls x hx a ha];constructor
 ·intro k;have:=m'.FG (m.rel h) k;rw[m.l]at this;exact this
 ·intro k;have:=m.FG h k;rw[m.r]at this;exact this
theorem Mv.round(m:Mv φ ψ o p o' p')(m':Mv ψ φ o' p' o p)(h:∀q,lf g q=lf f (ψ q)){gs hs:List (List Pr)}{ds es:List Fd}{W':Int}(R:jv f o p least W gs ds)(R':jv g o' p' least W' hs es):W=W'∧∀d∈ds,∃e∈es,e.worth=d.worth∧∀q,q∈e.pairs↔ψ q∈d.pairs:=by
 have eW:W=W':=by
  obtain⟨ps,b⟩:=R.ex;obtain⟨qs,b',_⟩:=m.bw h b;obtain⟨rs,c⟩:=R'.ex;obtain⟨us,c',_⟩:=m'.bw (m.rel h) c;have h1:=R'.top qs b'.1;have h2:=R.top us c'.1;rw[b'.2]at h1;rw[c'.2]at h2
  lia
 subst eW;refine⟨rfl,fun d hd=>?_⟩;have hx:d.pairs∈gs:=by rw[←R.FK];exact qV ⟨d,hd,rfl⟩
 obtain⟨y,hy,hm⟩:=m.groups m' h R.told R'.told _ hx;rw[←R'.FK]at hy;obtain⟨e,he,rfl⟩:=Zt hy;exact⟨e,he,by rw[(R'.ok e he).worth,(R.ok d hd).worth],hm⟩
theorem Rn.moved(m:Mv φ ψ o p o' p')(m':Mv ψ φ o' p' o p){ds:List Fd}(r:Rn o p least f ds):∀{g:Nat→Nat→Option Int}{es:List Fd},(∀q,lf g q=lf f (ψ q))→Rn o' p' least g es→∀d∈ds,∃e∈es,e.worth=d.worth∧∀q,q∈e.pairs↔ψ q∈d.pairs:=by
 induction r with
 |stop s=>exact fun _ _ d hd=>by cases hd
 |@round f W gs ds rs R r' ih=>
  intro g es h s d hd;cases s with
  |stop s=>
   obtain⟨ps,b⟩:=R.ex;obtain⟨qs,b',_⟩:=m.bw h b;have h1:=s qs b'.1;rw[b'.2]at h1;have:=R.least
   lia
  |@round _ W' hs es us R' s'=>
   obtain⟨eW,hr⟩:=m.round m' h R R';subst eW;have KP:∀q,q∈hs.flatten↔ψ q∈gs.flatten:=fun q=>by
    simp only[List.mem_flatten];constructor
    ·rintro⟨y,hy,hq⟩;obtain⟨x,hx,hm⟩:=m'.groups m (m.rel h) R'.told R.told y hy;exact⟨x,hx,(hm _).mpr (by rw[m.r];exact hq)⟩
    ·rintro⟨x,hx,hq⟩;obtain⟨y,hy,hm⟩:=m.groups m' h R.told R'.told x hx;exact⟨y,hy,(hm q).mpr hq⟩
   rcases List.mem_append.mp hd with hd|hd
   ·obtain⟨e,he,k⟩:=hr d hd;exact⟨e,Zw he,k⟩
   ·obtain⟨e,he,k⟩:=ih (g:=j9 g hs.flatten) (fun q=>by
     rw[mw,mw];by_cases hq:q∈hs.flatten
     ·rw[HB hq,HB ((KP q).mp hq)]
     ·rw[Dt hq,Dt (fun z=>hq ((KP q).mpr z)),h]) s' d hd
    exact⟨e,ZI he,k⟩
theorem bJ.moved(m:Mv φ ψ o p o' p')(m':Mv ψ φ o' p' o p)(h:∀q,lf g q=lf f (ψ q)){ds es:List Fd}(t:bJ f o p least ds)(t':bJ g o' p' least es):∀d∈ds,∃e∈es,e.worth=d.worth∧∀q,q∈e.pairs↔ψ q∈d.pairs:=fun d hd=>by
 obtain⟨aaW,r,pm⟩:=t.rn;obtain⟨qb,r',XQ⟩:=t'.rn;obtain⟨e,he,k⟩:=r.moved m m' h r' d (pm.mem_iff.mp hd);exact⟨e,XQ.mem_iff.mpr he,k⟩
end
theorem cS(n m:Nat)(q:Pr):ko n m (ko n m q)=q:=Prod.ext (by simp[ko];lia) (by simp[ko];lia)
theorem xq(n m:Nat)(o p:Int):Mv (ko n m) (ko n m) o p o p:=by
 refine⟨cS n m,cS n m,fun u ps w=>⟨Gp n m ps,⟨fun z=>w.ne ?_,fun q hq=>?_,?_⟩,?_,fun q=>?_⟩⟩
 ·have:=congrArg List.length z;simp[Gp]at this;exact this
 ·obtain⟨x,hx,rfl⟩:=List.mem_map.mp (List.mem_reverse.mp hq);show(u (ko n m (ko n m x))).isSome=true;rw[cS];exact w.ok x hx
 ·refine List.pairwise_reverse.mpr (List.pairwise_map.mpr (w.up.imp fun{a b} h=>⟨?_,?_⟩))
  ·have:=h.1;simp[ko];lia
  ·have:=h.2;simp[ko];lia
 ·have:∀ps:List Pr,vl (fun q=>u (ko n m q)) o p (Gp n m ps)=vl u o p ps:=fun ps=>by
   induction ps with
   |nil=>rfl
   |cons a t ih=>
    cases t with
    |nil=>
     show(u (ko n m (ko n m a))).getD 0=_;rw[cS];rfl
    |cons b t=>
     have e:Gp n m (a::b::t)=Gp n m t++ko n m b::[ko n m a]:=by simp[Gp]
     have e2:Gp n m (b::t)=Gp n m t++[ko n m b]:=by simp[Gp]
     rw[e,sG,←e2,ih];show _+((u (ko n m (ko n m b))).getD 0-gp o p (ko n m b) (ko n m a)+(u (ko n m (ko n m a))).getD 0)-(u (ko n m (ko n m b))).getD 0=(u a).getD 0-gp o p a b+vl u o p (b::t);rw[cS,cS];have e3:gp o p (ko n m b) (ko n m a)=gp o p a b:=by
      unfold gp ko;have e1:(n:Int)-1-a.1-((n:Int)-1-b.1)-1=b.1-a.1-1:=by lia
      have e2:(m:Int)-1-a.2-((m:Int)-1-b.2)-1=b.2-a.2-1:=by lia
      simp only[e1,e2]
     rw[e3];lia
  exact this ps
 ·unfold Gp;rw[List.mem_reverse,List.mem_map];constructor
  ·rintro⟨x,hx,rfl⟩;rw[cS];exact hx
  ·exact fun hq=>⟨_,hq,cS n m q⟩
theorem Ic{α β:Type}[DecidableEq β]{R:α→β→Prop}{l:List α}{m:List β}(h:∀a∈l,∃b∈m,R a b)(hi:l.Pairwise fun a a'=>∀b,R a b→¬R a' b):l.length≤m.length:=by
 have:∃k:List β,k.length=l.length∧k.Nodup∧(∀b∈k,b∈m)∧∀b∈k,∃a∈l,R a b:=by
  induction l with
  |nil=>exact⟨[],rfl, .nil,IM,IM⟩
  |cons a t ih=>
   have sq:=List.pairwise_cons.mp hi;obtain⟨k,k1,k2,k3,k4⟩:=ih (fun x hx=>h x (ZL hx)) sq.2;obtain⟨b,hb,r⟩:=h a (List.mem_cons_self ..);refine⟨b::k,by simp[k1],List.nodup_cons.mpr ⟨fun z=>?_,k2⟩,fun x hx=>?_,fun x hx=>?_⟩
   ·obtain⟨a',HP,r'⟩:=k4 b z;exact sq.1 a' HP b r r'
   ·rcases List.mem_cons.mp hx with rfl|hx
    ·exact hb
    ·exact k3 x hx
   ·rcases List.mem_cons.mp hx with rfl|hx
    ·exact⟨a,List.mem_cons_self ..,r⟩
    ·obtain⟨a',HP,r'⟩:=k4 x hx;exact⟨a',ZL HP,r'⟩
 obtain⟨k,k1,k2,k3,_⟩:=this;rw[←k1];exact len_sub k m k2 k3
end QF
namespace L2
open PySem PySem.Spec PyProof.Rows PySem.W PySem.Calls
open AutoSeq1 (wpAny_loadPart')
open PySem.SeqAt PySem.MeetsSeq PySem.MeetsSeq2 PySem.MeetsSeq3 PySem.SeqRoads2
theorem L0{prog:Program}{w:World}{A:Around}{E:Value→Shared→Prop}{s:Shared}{x y:Addr}{p q:Int×Int}{Q:Value→Shared→Prop}(hu:A.units<cLine)(hx:iK s.heap x p)(hy:iK s.heap y q)(h:Q (.bool (ip p q)) s):wpAny (model prog w) A (richCompare .Lt (.ref x) (.ref y)) Q E s:=tL hu hx hy h
theorem FX(l b x y:Addr)(items items2:Array Value)(p q:Int×Int)(n n2:Nat)(dd rO:Option Addr)(sl mR:Array (Option Value))(h0:items[0]?=some (.ref x))(h1:items2[0]?=some (.ref y))(cG:p≠q):
  Meets (Builtin.«list.__eq__.loop» ⟨[.ref l, .ref b,rawInt 0,rawInt 0],[]⟩)
   (fun A R s=>A.units+3<cLine∧s.heap.get? l=some {cls:= .type "list",dict:=dd,data:= .seq items n,slots:=sl}∧s.heap.get? b=some {cls:= .type "list",dict:=rO,data:= .seq items2 n2,slots:=mR}∧iK s.heap x p∧iK s.heap y q∧
    R (.ok (.ret (.bool (ip p q)))) s):=by
 intro prog w A R s h;obtain⟨hp,g,d,tk,os⟩:=s;obtain⟨hu,hl,hb,hx,hy,h⟩:=h
 wp_walk using wpAny_loadPart' hl,wpAny_loadPart' hb
 have HF:items[((0:Int)).toNat]?=some (.ref x):=h0;have zx:items2[((0:Int)).toNat]?=some (.ref y):=h1;rw[HF,zx];refine wpAny_bind (qC (show A.in1.units+1<cLine from by show A.units+1+1<cLine;lia) hx hy prog w _ _ ?_);rw[Zs cG]
 wp_walk using wpAny_loadPart' hl,wpAny_loadPart' hb
 rw[HF,zx]
 wp_walk using L0 (show A.in1.units<cLine from by show A.units+1<cLine;lia) hx hy
 exact h
theorem OX(l b x y:Addr)(items items2:Array Value)(p q:Int×Int)(n n2:Nat)(dd rO:Option Addr)(sl mR:Array (Option Value))(h0:items[0]?=some (.ref x))(h1:items2[0]?=some (.ref y))(cG:p≠q):
  Meets (Builtin.«list.__lt__» ⟨[.ref l, .ref b],[]⟩)
   (fun A R s=>A.units+3<cLine∧s.heap.get? l=some {cls:= .type "list",dict:=dd,data:= .seq items n,slots:=sl}∧s.heap.get? b=some {cls:= .type "list",dict:=rO,data:= .seq items2 n2,slots:=mR}∧iK s.heap x p∧iK s.heap y q∧
    R (.ok (.ret (.bool (ip p q)))) s):=by
 intro prog w A R s h;obtain⟨hp,g,d,tk,os⟩:=s;obtain⟨hu,hl,hb,hx,hy,h⟩:=h;have f3:=AutoSeq1.sub_list_list
 wp_walk using wpAny_loadPart' hl,wpAny_loadPart' hb
 exact⟨plainId_quiet plain_eq_loop _,codeAny_builtin entry_eq_loop (by
  rw[Around.under_plainId plain_eq_loop _];exact FX l b x y items items2 p q n n2 dd rO sl mR h0 h1 cG prog w A R _ ⟨hu,hl,hb,hx,hy,h⟩)⟩
theorem FY(l b x y:Addr)(items items2:Array Value)(p q:Int×Int)(n n2:Nat)(dd rO:Option Addr)(sl mR:Array (Option Value))(h0:items[0]?=some (.ref x))(h1:items2[0]?=some (.ref y))(cG:p≠q):
  Meets (Builtin.«list.__eq__.loop» ⟨[.ref l, .ref b,rawInt 0,rawInt 2],[]⟩)
   (fun A R s=>A.units+3<cLine∧s.heap.get? l=some {cls:= .type "list",dict:=dd,data:= .seq items n,slots:=sl}∧s.heap.get? b=some {cls:= .type "list",dict:=rO,data:= .seq items2 n2,slots:=mR}∧iK s.heap x p∧iK s.heap y q∧
    R (.ok (.ret (.bool false))) s):=by
 intro prog w A R s h;obtain⟨hp,g,d,tk,os⟩:=s;obtain⟨hu,hl,hb,hx,hy,h⟩:=h
 wp_walk using wpAny_loadPart' hl,wpAny_loadPart' hb
 have HF:items[((0:Int)).toNat]?=some (.ref x):=h0;have zx:items2[((0:Int)).toNat]?=some (.ref y):=h1;rw[HF,zx];refine wpAny_bind (qC (show A.in1.units+1<cLine from by show A.units+1+1<cLine;lia) hx hy prog w _ _ ?_);rw[Zs cG]
 wp_walk using wpAny_loadPart' hl,wpAny_loadPart' hb
 rw[HF,zx]
 wp_walk
 exact h
theorem OY(l b x y:Addr)(items items2:Array Value)(p q:Int×Int)(n n2:Nat)(dd rO:Option Addr)(sl mR:Array (Option Value))(hsz:items.size=items2.size)(h0:items[0]?=some (.ref x))(h1:items2[0]?=some (.ref y))(cG:p≠q):
  Meets (Builtin.«list.__eq__» ⟨[.ref l, .ref b],[]⟩)
   (fun A R s=>A.units+3<cLine∧s.heap.get? l=some {cls:= .type "list",dict:=dd,data:= .seq items n,slots:=sl}∧s.heap.get? b=some {cls:= .type "list",dict:=rO,data:= .seq items2 n2,slots:=mR}∧iK s.heap x p∧iK s.heap y q∧
    R (.ok (.ret (.bool false))) s):=by
 intro prog w A R s h;obtain⟨hp,g,d,tk,os⟩:=s;obtain⟨hu,hl,hb,hx,hy,h⟩:=h;have f3:=AutoSeq1.sub_list_list;have aaX:¬(items.size !=items2.size)=true:=by simp[hsz]
 wp_walk using wpAny_loadPart' hl,wpAny_loadPart' hb
 exact⟨plainId_quiet plain_eq_loop _,codeAny_builtin entry_eq_loop (by
  rw[Around.under_plainId plain_eq_loop _];exact FY l b x y items items2 p q n n2 dd rO sl mR h0 h1 cG prog w A R _ ⟨hu,hl,hb,hx,hy,h⟩)⟩
open PySem.SeqAt
section
variable{prog:Program}{w:World}{A:Around}{E:Value→Shared→Prop}{s:Shared}
def FZ(h:Heap)(x:Addr)(p:Int×Int):Prop:=∃items t,h.IsList x items∧items[0]?=some (.ref t)∧iK h t p
theorem F1{x y:Addr}{p q:Int×Int}{Q:Value→Shared→Prop}(hu:A.units+3<cLine)(cG:p≠q)(hx:FZ s.heap x p)(hy:FZ s.heap y q)(h:Q (.bool (ip p q)) s):wpAny (model prog w) A (compareOp .Lt (.ref x) (.ref y)) Q E s:=by
 obtain⟨its,t,⟨⟨cls,dd,data,sl⟩,ho,hc,n,hd⟩,h1,h2⟩:=hx;obtain⟨dB,t2,⟨⟨EC,rO,data2,mR⟩,sE,qc,n2,hd2⟩,g1,g2⟩:=hy;simp only at hc hd qc hd2;subst hc hd qc hd2;exact richCompare_meets_room (op:= .Lt) ⟨_,ho,rfl⟩ ⟨_,sE,rfl⟩ F.slot_list_lt F.entry_list_lt (F.args_list_lt_2 _ _) (OX x y t t2 its dB p q n n2 dd rO sl mR h1 g1 cG) ⟨hu,ho,sE,h2,g2,show Value.bool (ip p q)≠Value.notImplemented∧Q (.bool (ip p q)) s from⟨(fun x=>nomatch x),h⟩⟩ D9
theorem Ie{x y:Addr}{p q:Int×Int}(hu:A.units+3<cLine)(cG:p≠q)(hx:FZ s.heap x p)(hy:FZ s.heap y q):EqAt A s (.ref x) (.ref y) false:=by
 obtain⟨its,t,l1,h1,h2⟩:=hx;obtain⟨dB,t2,l2,g1,g2⟩:=hy;have yQ:x≠y:=fun e=>by
  subst e;obtain⟨o,ho,_,n,hd⟩:=l1;obtain⟨o',B6,_,n',zv⟩:=l2;rw[ho]at B6;cases B6;rw[hd]at zv;injection zv with zv _;rw[←zv,h1]at g1;cases g1;obtain⟨o,_,_,_,e1,_,e3⟩:=h2;obtain⟨o',_,_,_,f1,_,f3⟩:=g2;rw[e1]at f1;cases f1;rw[e3]at f3;injection f3 with f3 _;have f3:=congrArg Array.toList f3;simp at f3;exact cG (Prod.ext f3.1.1 f3.2.1)
 refine EqAt.of_refs yQ ?_;by_cases hsz:its.size=dB.size
 ·have i1:0<its.size:=(Array.getElem?_eq_some_iff.mp h1).1;have i2:0<dB.size:=(Array.getElem?_eq_some_iff.mp g1).1;intro prog w E Q h;obtain⟨⟨cls,dd,data,sl⟩,ho,hc,n,hd⟩:=l1;obtain⟨⟨EC,rO,data2,mR⟩,sE,qc,n2,hd2⟩:=l2;simp only at hc hd qc hd2;subst hc hd qc hd2;exact richCompare_meets_room (op:= .Eq) ⟨_,ho,rfl⟩ ⟨_,sE,rfl⟩ F.slot_list_eq F.entry_list_eq (F.args_list_eq_2 _ _) (OY x y t t2 its dB p q n n2 dd rO sl mR hsz h1 g1 cG) ⟨hu,ho,sE,h2,g2,show Value.bool false≠Value.notImplemented∧Q (.bool false) s from⟨(fun x=>nomatch x),h⟩⟩ D9
 ·exact RcAt.lists_lengths l1 l2 (by simpa using hsz) (by lia)
def AE(h:Heap)(x:Addr)(k:Kw):Prop:=∃o t y c,h.get? x=some o∧o.cls= .type "tuple"∧o.data= .seq #[.int k.1 t, .ref y] c∧FZ h y k.2
theorem OZ{x y:Addr}{p q:Kw}{C:Bool→Shared→Prop}(hu:A.units+3<cLine)(hx:AE s.heap x p)(hy:AE s.heap y q)(cG:x=y∨p.2≠q.2)(h:C (rz p q) s):wpAny (model prog w) A (keyLt' (tuples' true) (.ref x) (.ref y)) C E s:=by
 obtain⟨ox,t,z,n,h1,h2,h3,h4⟩:=hx;obtain⟨oy,t',z',n',g1,g2,g3,g4⟩:=hy;refine kat_lt h1 h3 g1 g3 (kat_cons (MB _ _ _ _ ?_));rcases cG with e|cG
 ·subst e;rw[h1]at g1;cases g1;rw[h3]at g3;injection g3 with g3 _;have g3:=congrArg Array.toList g3;simp at g3;obtain⟨⟨a1,a2⟩,a3⟩:=g3;subst a3;have e2:p.2=q.2:=by
   obtain⟨i1,u1,b1,b2,b3⟩:=h4;obtain⟨i2,u2,c1,c2,c3⟩:=g4;obtain⟨o,ho,_,n,hd⟩:=b1;obtain⟨o',B6,_,n',zv⟩:=c1;rw[ho]at B6;cases B6;rw[hd]at zv;injection zv with zv _;rw[←zv,b2]at c2;cases c2;obtain⟨o,_,_,_,e1,_,e3⟩:=b3;obtain⟨o',_,_,_,f1,_,f3⟩:=c3;rw[e1]at f1;cases f1;rw[e3]at f3;injection f3 with f3 _;have f3:=congrArg Array.toList f3;simp at f3;exact Prod.ext f3.1.1 f3.2.1
  rw[Zn a1];refine kat_yes (kat_cons (SeqAt.EqAt.same _ _ _ _ _ (kat_yes (kat_nil ?_))));have:rz p q=decide (#[Value.int p.1 t, .ref z].size<#[Value.int q.1 t', .ref z].size):=by
   unfold rz;rw[HB a1,e2];simp[ip]
  rw[this]at h;exact h
 ·by_cases a:p.1=q.1
  ·rw[Zn a];have e:rz p q=ip p.2 q.2:=HB a;rw[e]at h;exact kat_yes (kat_cons (Ie hu cG h4 g4 _ _ _ _ (kat_no (kat_one _ _ (F1 hu cG h4 g4 h)))))
  ·rw[Zs a];have e:rz p q=decide (p.1<q.1):=Dt a;rw[e]at h;exact kat_no (oneLt_int h)
theorem BS{h:Heap}:∀{its:List Value},(∀v∈its,∃x p,v= .ref x∧AE h x p)→∃fs,KatTups h its fs∧fs.length=its.length∧∀f∈fs,∃i t,f=Value.int i t
 |[],_=>⟨[], .nil,rfl,fun f hf=>by cases hf⟩
 |v::r,hv=>by
  obtain⟨x,p,rfl,o,t,u,n,h1,h2,h3,_⟩:=hv v (List.mem_cons_self ..);obtain⟨fs,k1,k2,k3⟩:=BS (its:=r) fun v Kk=>hv v (ZL Kk)
  refine⟨.int p.1 t::fs, .cons h1 h2 h3 rfl k1,by simp[k2],fun f hf=>?_⟩;rcases List.mem_cons.mp hf with rfl|hf
  ·exact⟨_,_,rfl⟩
  ·exact k3 f hf
theorem Ig{its:List Value}{Q:SortKind→Shared→Prop}(cG:0<its.length)(hv:∀v∈its,∃x p,v= .ref x∧AE s.heap x p)(h:Q (tuples' true) s):wpAny (model prog w) A (keyKind' its.toArray) Q E s:=by
 obtain⟨fs,k1,k2,k3⟩:=BS hv;refine kat_kind (T:= .type "int") k1 D9 (fun v hv=>?_) (Nn) h;obtain⟨i,t,rfl⟩:=k3 v hv;exact .now
end
end L2
namespace QF
open PySem L2 PySem.Spec PyProof.Rows PySem.W PySem.Calls
def Dd(k:Ky):Kw:=(k.1,gG k.2)
inductive F2(K:Frag)(vs:List V)(H:Hp)(Q:VK):Prop
 |mk (l:Addr) (xs:List V) (ks:List Ky) (_:vs=[.ref l]) (_:il K H l xs) (_:y6 H xs ks) (_:(ks.map fun k=>gG k.2).Nodup) (_:∀k∈ks,k.2≠[]) (_:ks.length<10000) (_:∀D ys qs,H D=none→y6 H ys qs→qs.Perm ks→qs.Pairwise (fun p q=>rz (Dd p) (Dd q)=true)→Q (.ref D) (upd H D (.lst ys))):F2 K vs H Q
theorem t8{X:Cx}(K:Frag)(hu:X.A.units+6<cLine)(hK:X.K=K:=by rfl):iD X (.builtin "sorted") (F2 K):=by
 subst hK;intro pins s σ H vs us Q I r h;obtain⟨l,xs,ks,rfl,hq,DU,nd,cG,DA,q⟩:=h;obtain⟨u,rfl,rx⟩:=vals1 r;cases rx;obtain⟨its,r',pl,hz⟩:=I.list hq;have hlen:=r'.length;have ql:=DU.1;have key:∀i,i<its.length→∃t a us,xs[i]?=some (.ref t)∧its[i]?=some (.ref t)∧H t=some (.tup [.int (ks.getD i (0,[])).1, .ref a])∧H a=some (.lst us)∧fK H us (ks.getD i (0,[])).2∧AE s.heap t (Dd (ks.getD i (0,[]))):=fun i hi=>by
  have hp:ks[i]?=some (ks.getD i (0,[])):=by simp[show i<ks.length by lia]
  have hn:=cG _ (WI hp);generalize ks.getD i (0,[])=k at hp hn;obtain⟨t,a,us,h1,h2,h3,P⟩:=DU.2 i _ hp;obtain⟨v,e3,e4⟩:=r'.get h1;cases e4;refine⟨t,a,us,h1,e3,h2,h3,P,?_⟩;obtain⟨Xo,r2,⟨o,e1,e2,n,e3⟩,_⟩:=I.tuple (xs:=[.int k.1, .ref a]) (.of h2);cases r2 with
  |cons c b=>
   cases b with
   |cons c' d=>
    cases d;obtain⟨ta,rfl⟩:=c;cases c';refine⟨o,ta,a,n,e1,e2,e3,?_⟩;obtain⟨XS,r3,OR,_⟩:=I.list (xs:=us) (.of h3);obtain⟨t0,g1,g2⟩:∃t0,us[0]?=some (V.ref t0)∧H t0=some (.tup (iE (gG k.2))):=P.2 0 _ (by
     cases e:k.2 with
     |nil=>exact V' e hn
     |cons x r=>rfl)
    obtain⟨v,f1,f2⟩:=r3.get g1;cases f2;exact⟨XS.toArray,t0,OR.isList,by simpa using f1,OU I g2⟩
 have DB:∀{h':Heap},(∀b o,s.heap.get? b=some o→h'.get? b=some o)→∀{x p},AE s.heap x p→AE h' x p:=fun k _ _ ⟨o,t,u,n,a,b,c,its,v,⟨o',p1,p2⟩,l2,XT,t',u',n',q1,q2⟩=>⟨o,t,u,n,k _ _ a,b,c,its,v,⟨o',k _ _ p1,p2⟩,l2,XT,t',u',n',k _ _ q1,q2⟩
 have inj:∀i j,i<its.length→j<its.length→i≠j→(Dd (ks.getD i (0,[]))).2≠(Dd (ks.getD j (0,[]))).2:=fun i j hi hj mV e=>by
  refine mV ((List.getElem?_inj (by rw[List.length_map];lia) nd).mp ?_);rw[List.getElem?_map,List.getElem?_map];have h1:ks[i]?=some (ks.getD i (0,[])):=by simp[show i<ks.length by lia]
  have h2:ks[j]?=some (ks.getD j (0,[])):=by simp[show j<ks.length by lia]
  rw[h1,h2];exact congrArg some e
 have L:yK its.length fun i j=>rz (Dd (ks.getD i (0,[]))) (Dd (ks.getD j (0,[]))):=by
  refine⟨fun i j k _ _ _ a b=>Fh a b,fun i j _ _ a=>An a,fun i j hi hj cG=>BG fun e=>inj i j hi hj cG (congrArg Prod.snd e)⟩
 have LG:its.Nodup:=by
  refine List.pairwise_iff_getElem.mpr fun i j hi hj mV e=>?_
  obtain⟨t1,a1,kG,_,a2,a3,a4,a5,_⟩:=key i hi;obtain⟨t2,b1,iq,_,b2,b3,b4,b5,_⟩:=key j hj;rw[ZQ hi]at a2;rw[ZQ hj,←e,a2]at b2;cases b2;rw[a3]at b3;have:=HO.tup.inj (WK b3);simp only[List.cons.injEq,V.int.injEq,V.ref.injEq,and_true]at this;obtain⟨_,rfl⟩:=this;rw[a4]at b4;have:=HO.lst.inj (WK b4);subst this;refine inj i j hi hj D9 ?_;show gG _=gG _;have n1:=cG _ (WI (show ks[i]?=some (ks.getD i (0,[])) by simp[show i<ks.length by lia]));have n2:=cG _ (WI (show ks[j]?=some (ks.getD j (0,[])) by simp[show j<ks.length by lia]));have g:∀{qs:List Pr},qs≠[]→qs[0]?=some (gG qs):=fun{qs} h=>by
   cases qs with
   |nil=>exact absurd rfl h
   |cons x r=>rfl
  obtain⟨x1,u1,v1⟩:=a5.2 0 _ (g n1);obtain⟨x2,u2,v2⟩:=b5.2 0 _ (g n2);rw[u1]at u2;cases u2;rw[v1]at v2;have:=HO.tup.inj (WK v2);simp only[iE,List.cons.injEq,V.int.injEq,and_true]at this;exact Prod.ext this.1 this.2
 refine tJ (κ:=tuples' true) pl.isList D9 LG L (fun h2 s' k Q' hq=>?_) (fun i j hi hj s' k C hC=>?_) fun p h' D c hp hs k hD e=>?_
 ·refine Ig D9 (fun v hv=>?_) hq;obtain⟨i,hi,rfl⟩:=Α hv;obtain⟨t,_,_,_,h3,_,_,_,h5⟩:=key i hi;exact⟨t,_,by rw[ZQ hi]at h3;exact WK h3,DB k h5⟩
 ·obtain⟨t,_,_,_,h3,_,_,_,h5⟩:=key i hi;obtain⟨t',_,_,_,g3,_,_,_,g5⟩:=key j hj;have e1:its.getD i .none= .ref t:=by simp[h3]
  have e2:its.getD j .none= .ref t':=by simp[g3]
  rw[e1,e2];refine OZ (show X.A.units+1+1+3<cLine by lia) (DB k h5) (DB k g5) ?_ hC;by_cases mV:i=j
  ·subst mV;rw[h3]at g3;exact .inl (Value.ref.inj (WK g3))
  ·exact .inr (inj i j hi hj mV)
 ·have mem:∀i∈p.toList,i<its.length:=fun i hi=>by
   have:=hp.mem_iff.mp hi;simpa using this
  have rel:Vals (p.toList.map fun i=>xs.getD i .cJ) (p.toList.map fun i=>its.getD i Value.none):=tK fun i hi=>by
   obtain⟨t,_,_,h1,h3,_⟩:=key i (mem i hi);have e1:xs.getD i .cJ= .ref t:=by simp[h1]
   have e2:its.getD i .none= .ref t:=by simp[h3]
   rw[e1,e2];rfl
  have hsz:(p.toList.map fun i=>xs.getD i V.cJ).length=its.length:=by rw[List.length_map,Array.length_toList,hp.size]
  have Am:(p.toList.map fun i=>ks.getD i (0,[])).length=its.length:=by rw[List.length_map,Array.length_toList,hp.size]
  refine⟨.ref D,_,I.laid (t':=s.toks) k hD (show cL X.prog X.w _ h' _ (.lst _)from⟨by rw[hsz,←hlen];exact hz,_,c,rel,e⟩),rfl,q D _ (p.toList.map fun i=>ks.getD i (0,[])) (I.bU.fresh hD) ⟨by rw[hsz,Am],fun i f hf=>?_⟩ ?_ ?_⟩
  ·rw[List.getElem?_map]at hf⊢;cases ei:p.toList[i]? with
   |none=>rw[ei]at hf;cases hf
   |some j=>
    rw[ei]at hf;have hf:ks.getD j (0,[])=f:=WK hf;obtain⟨t,a,us,h1,h3,h4,h5,h6,_⟩:=key j (mem j (WI ei));rw[hf]at h4 h6;refine⟨t,a,us,?_,h4,h5,h6⟩;show some (xs.getD j .cJ)=_;simp[h1]
  ·have h1:=hp.map (fun i=>ks.getD i (0,[]));refine h1.trans ?_;have:(X_ its.length).map (fun i=>ks.getD i (0,[]))=ks:=by
    apply List.ext_getElem?;intro i;rw[List.getElem?_map];by_cases hi:i<its.length
    ·rw[List.getElem?_range hi];simp[show i<ks.length by lia]
    ·rw[uW Zc,uW D9];rfl
   rw[this]
  ·rw[List.pairwise_iff_getElem];intro i j hi hj mV;have sq:i<its.length:=by rw[Am]at hi;exact hi
   have yS:j<its.length:=by rw[Am]at hj;exact hj
   have:=hs i j mV yS;have CM:=hp.size;simp only[List.getElem_map];have e1:gd p i=p.toList[i]'(by simp;lia):=by simp[gd,show i<p.size by lia]
   have e2:gd p j=p.toList[j]'(by simp;lia):=by simp[gd,show j<p.size by lia]
   rw[e1,e2]at this;exact this
end QF
namespace QF
open PySem L2
def SW(φ:Pr→Pr)(c c0:Case):Prop:=(∀q,(c.pw q).isSome=(c0.pw (φ q)).isSome)∧((bK c0:Int)-1)*c.same+1≤c.least
theorem F5{φ:Pr→Pr}{m:Nat}{c c0:Case}(k:eF m c)(inj:∀q,φ (φ q)=q)(F0:SW φ c c0):Va c:=fun ds f r=>by
 obtain⟨hs,hl⟩:=F0;have each:∀d∈ds,bK c0≤d.pairs.length:=fun d hd=>by
  have F:=r.iA d hd;have h1:=Jz (g:=lf ZP) (S:=c.same) k.out.1 k.into.1 F.way.up fun q hq=>by
   obtain⟨w,hw⟩:=Option.isSome_iff_exists.mp (F.way.ok q hq);refine⟨w,hw,?_⟩;rw[tZ]at hw;exact pw_le k.good hw
  rw[F.worth]at h1;have h2:=F.least;have XU:=k.same.1;have h4:((bK c0:Int)-1)*c.same<(d.way.length:Int)*c.same:=by lia
  have h5:(bK c0:Int)-1<(d.way.length:Int):=Int.lt_of_mul_lt_mul_right h4 D9;have h6:=len_sub d.way d.pairs (F.way.up.imp fun{a b} h e=>by
   rw[e]at h;have:=h.1
   lia) F.sub
  lia
 have h1:=FQ (l:=ds.map Fd.pairs) (k:=bK c0) fun x hx=>by
  obtain⟨d,hd,rfl⟩:=Zt hx;exact each d hd
 have h2:=nH r.apart.ap fun d hd=>j_ (r.iA d hd).qB
 have h3:=len_sub ((ds.map Fd.pairs).flatten.map φ) ((uK c0.xs.length c0.ys.length).filter fun q=>(c0.pw q).isSome) (List.pairwise_map.mpr (h2.imp fun{a b} h e=>h (by rw[←inj a,e,inj]))) fun q hq=>by
  obtain⟨q0,F8,rfl⟩:=Zt hq;obtain⟨ps,hp,hq⟩:=List.mem_flatten.mp F8;obtain⟨d,hd,rfl⟩:=Zt hp;have:=(r.iA d hd).op q0 hq;rw[tZ,hs]at this;refine List.mem_filter.mpr ⟨?_,this⟩;obtain⟨w,hw⟩:=Option.isSome_iff_exists.mp this;generalize φ q0=q at hw;obtain⟨⟨a1,a2⟩,a3,a4⟩:=c0.pw_in hw;have:=oY (n:=c0.xs.length) (m:=c0.ys.length) (i:=q.1.toNat) (j:=q.2.toNat) (by lia) (by lia);have e:aP (q.1.toNat,q.2.toNat)=q:=Prod.ext (by simp[aP];lia) (by simp[aP];lia);rw[e]at this;exact this
 rw[tY,List.length_map]at h3;rw[List.length_map]at h1;have h4:ds.length*bK c0≤manyN c0 c0.xs.length:=ZN h1 h3;rcases Nat.lt_or_ge 20 ds.length with h|h
 ·exfalso;have h5:21*bK c0≤ds.length*bK c0:=Nat.mul_le_mul_right _ h;unfold bK at h4 h5
  lia
 ·exact h
theorem AF(c:Case):((bK c:Int)-1)*(mZ c).same+1≤(mZ c).least:=by show _≤max c.least (((bK c:Int)-1)*fY c+1);exact Int.le_max_right _ _
def JB(φ:Pr→Pr)(e:Fd)(k:Ky):Prop:=k.1=e.worth∧k.2.Pairwise (fun p q=>ip p q=true)∧∀q,q∈k.2↔φ q∈e.pairs
def iF(φ:Pr→Pr)(es:List Fd)(ks:List Ky):Prop:=ks.length=es.length∧∀(i:Nat) e,es[i]?=some e→∃k,ks[i]?=some k∧JB φ e k
theorem iF.nil{φ:Pr→Pr}:iF φ [] []:=⟨rfl,fun i e h=>by simp at h⟩
theorem iF.snoc{φ:Pr→Pr}{es:List Fd}{ks:List Ky}{e:Fd}{k:Ky}(K:iF φ es ks)(h:JB φ e k):iF φ (es++[e]) (ks++[k]):=by
 refine⟨by simp[K.1],fun i x hx=>?_⟩;by_cases hi:i<es.length
 ·rw[ZA hi]at hx;rw[ZA (by rw[K.1];exact hi)];exact K.2 i x hx
 ·rw[ZF D9]at hx;have h0:i-es.length=0:=by
   have:=(ZX hx).1;simp at this;lia
  rw[h0]at hx;cases hx;refine⟨k,?_,h⟩;rw[ZF (by rw[K.1];lia),K.1,h0];rfl
theorem iF.mem{φ:Pr→Pr}{es:List Fd}{ks:List Ky}(K:iF φ es ks){k:Ky}(h:k∈ks):∃e∈es,JB φ e k:=by
 obtain⟨i,hi,rfl⟩:=Α h;have sq:i<es.length:=by rw[←K.1];exact hi
 obtain⟨k,h1,h2⟩:=K.2 i es[i] (by simp[sq]);rw[ZQ hi]at h1;cases h1;exact⟨_,Zq sq,h2⟩
theorem iF.has{φ:Pr→Pr}{es:List Fd}{ks:List Ky}(K:iF φ es ks){e:Fd}(h:e∈es):∃k∈ks,JB φ e k:=by
 obtain⟨i,hi,rfl⟩:=Α h;obtain⟨k,h1,h2⟩:=K.2 i es[i] (by simp[hi]);exact⟨k,WI h1,h2⟩
section
variable{φ:Pr→Pr}{c:Case}{es:List Fd}{ks:List Ky}
theorem JB.ne(inv:∀q,φ (φ q)=q){e:Fd}{k:Ky}(m:JB φ e k)(h:e.pairs≠[]):k.2≠[]:=fun z=>by
 obtain⟨a,ha⟩:=List.exists_mem_of_ne_nil _ h;have:=(m.2.2 (φ a)).mpr (by rw[inv];exact ha);rw[z]at this;cases this
theorem sN{l:List Pr}(h:l≠[]):gG l∈l:=by
 cases l with
 |nil=>exact absurd rfl h
 |cons x r=>simp[gG]
theorem iF.F9(t:bJ ZP c.out c.into c.least es)(inv:∀q,φ (φ q)=q)(K:iF φ es ks):(ks.map fun k=>gG k.2).Nodup∧∀k∈ks,k.2≠[]:=by
 have cG:∀k∈ks,k.2≠[]:=fun k hk=>by
  obtain⟨e,he,m⟩:=K.mem hk;exact m.ne inv (t.ne e he)
 refine⟨List.pairwise_map.mpr (List.pairwise_iff_getElem.mpr fun i j hi hj mV e=>?_),cG⟩;have sq:i<es.length:=by rw[←K.1];exact hi
 have yS:j<es.length:=by rw[←K.1];exact hj
 obtain⟨k1,a1,m1⟩:=K.2 i es[i] (by simp[sq]);obtain⟨k2,a2,m2⟩:=K.2 j es[j] (by simp[yS]);rw[ZQ hi]at a1;rw[ZQ hj]at a2;cases a1;cases a2;have f1:=(m1.2.2 _).mp (sN (cG _ (Zq hi)));have f2:=(m2.2.2 _).mp (sN (cG _ (Zq hj)));rw[←e]at f2;exact List.pairwise_iff_getElem.mp t.apart i j sq yS mV _ f1 f2
theorem vY{c':Case}{qb:List Fd}(t:bJ ZP c.out c.into c.least es)(t':bJ (iz c' []) c'.out c'.into c'.least qb)(h:∀d∈es,∃e∈qb,e.worth=d.worth∧∀q,q∈e.pairs↔φ q∈d.pairs)(inv:∀q,φ (φ q)=q):es.length≤qb.length:=by
 have nf:∀d∈qb,d.pairs≠[]:=fun d hd=>t'.ne d hd
 have key:=Ic (R:=fun d (p:Pr)=>∃e∈qb,p=gG e.pairs∧∀q,q∈e.pairs↔φ q∈d.pairs) (l:=es) (m:=qb.map fun e=>gG e.pairs) (fun d hd=>by
  obtain⟨e,he,_,k⟩:=h d hd;exact⟨_,qV ⟨e,he,rfl⟩,e,he,rfl,k⟩) (t.apart.imp fun{a b} ab p h1 h2=>by
  obtain⟨e,he,rfl,k⟩:=h1;obtain⟨e',XW,hp,k'⟩:=h2;have m:=sN (nf e he);have m':gG e.pairs∈e'.pairs:=by rw[hp];exact sN (nf e' XW)
  exact ab _ ((k _).mp m) ((k' _).mp m'))
 rw[List.length_map]at key;exact key
theorem kys_eq{c':Case}{qb:List Fd}{MI ls SX:List Ky}(t:bJ ZP c.out c.into c.least es)(h:∀d∈es,∃e∈qb,e.worth=d.worth∧∀q,q∈e.pairs↔φ q∈d.pairs)(h':∀d∈qb,∃e∈es,e.worth=d.worth∧∀q,q∈e.pairs↔φ q∈d.pairs)(inv:∀q,φ (φ q)=q)(K:iF id es ks)(K':iF φ qb MI)
  (p:ls.Perm ks) (s:ls.Pairwise fun a b=>rz (Dd a) (Dd b)=true) (p':SX.Perm MI) (s':SX.Pairwise fun a b=>rz (Dd a) (Dd b)=true):ls=SX:=by
 have same:∀{d e:Fd}{k k':Ky},JB id d k→JB φ e k'→e.worth=d.worth→(∀q,q∈d.pairs↔φ q∈e.pairs)→k=k':=fun{d e k k'} m m' w r=>Prod.ext (by rw[m.1,m'.1,w]) (xo LZ m.2.1 m'.2.1 fun q=>by rw[m.2.2,m'.2.2];exact r q)
 refine xo (fun a b h z=>by rw[An h]at z;cases z) s s' fun k=>?_
 rw[p.mem_iff,p'.mem_iff];constructor
 ·intro hk;obtain⟨d,hd,m⟩:=K.mem hk;obtain⟨e,he,w,r⟩:=h d hd;obtain⟨k',z_,m'⟩:=K'.has he;rw[same m m' w fun q=>by rw[r,inv]];exact z_
 ·intro hk;obtain⟨e,he,m'⟩:=K'.mem hk;obtain⟨d,hd,w,r⟩:=h' e he;obtain⟨k',z_,m⟩:=K.has hd;rw[←same m m' w.symm r];exact z_
end
def De(c:Case):Case:={c with xs:=c.xs.reverse,ys:=c.ys.reverse}
theorem F_(xs:List Str)(i:Int):wd xs.reverse i=wd xs ((xs.length:Int)-1-i):=by
 unfold wd;by_cases h:0≤i
 ·rw[HB h];by_cases h2:i<xs.length
  ·rw[HB D9,List.getElem?_reverse D9]
   congr 1;lia
  ·rw[Dt D9,uW (by rw[List.length_reverse];lia)]
 ·rw[Dt h];by_cases h3:0≤(xs.length:Int)-1-i
  ·rw[HB h3,uW D9]
  ·rw[Dt h3]
theorem JC(c:Case)(q:Pr):(De c).pw q=c.pw (ko c.xs.length c.ys.length q):=by
 unfold Case.pw;show((wd c.xs.reverse q.1).bind fun x=>(wd c.ys.reverse q.2).bind fun y=>cY c.same c.fs x y)=_;rw[F_,F_];rfl
theorem JD(c:Case)(q:Pr):lf (iz (De c) []) q=lf ZP (ko c.xs.length c.ys.length q):=by rw[tZ,tZ,JC]
theorem BU{m:Nat}{c:Case}(k:eF m c):eF m (De c):=⟨by show c.xs.reverse.length≤m;rw[List.length_reverse];exact k.x,by show c.ys.reverse.length≤m;rw[List.length_reverse];exact k.y,k.good,k.same,k.out,k.into,k.least⟩
theorem F'(ys:List V):(X_ ys.length).filterMap (ys[·]?)=ys:=by
 have:∀k,k≤ys.length→(X_ k).filterMap (ys[·]?)=ys.take k:=fun k=>by
  induction k with
  |zero=>intro _;rfl
  |succ k ih=>
   intro hk;rw[List.range_succ,List.filterMap_append,ih D9,List.take_succ];have e:ys[k]?=some ys[k]:=by simp[show k<ys.length by lia]
   rw[e,List.filterMap_cons,e];rfl
 rw[this _ (Nat.le_refl _),List.take_length]
theorem Ga(xs:List V):(sliceRange ((xs.length:Int)-1) (-1) (-1)).filterMap (xs[·]?)=xs.reverse:=by
 have e1:sliceRange ((xs.length:Int)-1) (-1) (-1)=(X_ xs.length).map fun k:Nat=>((xs.length:Int)-1+(-1)*(k:Int)).toNat:=by
  unfold sliceRange;dsimp only;rw[if_neg ZO];by_cases h:xs.length=0
  ·rw[h];rfl
  ·rw[HB D9];have e0:((xs.length:Int)-1-(-1)-(-1)-1)/(-(-1))=xs.length:=by rw[show(-(-1):Int)=1 by decide,Int.ediv_one];lia
   rw[e0];rfl
 rw[e1,List.filterMap_map];have e2:=F' xs.reverse;rw[List.length_reverse]at e2;refine Eq.trans ?_ e2;have:∀l:List Nat,(∀k∈l,k<xs.length)→l.filterMap ((xs[·]?)∘fun k:Nat=>((xs.length:Int)-1+(-1)*(k:Int)).toNat)=l.filterMap (xs.reverse[·]?):=fun l=>by
  induction l with
  |nil=>intro _;rfl
  |cons a r ih=>
   intro h;have ha:=h a (IM);have e3:((xs[·]?)∘fun k:Nat=>((xs.length:Int)-1+(-1)*(k:Int)).toNat) a=xs.reverse[a]?:=by
    show xs[((xs.length:Int)-1+(-1)*(a:Int)).toNat]?=_;rw[List.getElem?_reverse ha]
    congr 1;lia
   rw[List.filterMap_cons,List.filterMap_cons,e3,ih fun k hk=>h k (by simp[hk])]
 exact this _ fun k hk=>List.mem_range.mp hk
section
open PySem.Spec PyProof.Rows PySem.W PySem.Calls
variable{X:Cx}
def O0(K:Frag)(te ts:TE):TE:=fun σ H Q=>te σ H fun x H1=>ts σ H1 fun y H2=>y= .int (-1)∧∃a xs,x= .ref a∧il K H2 a xs∧∀p,H2 p=none→Q (.ref p) (upd H2 p (.lst xs.reverse))
theorem BV(K:Frag){e st:Expr}{te ts:TE}{p2 pos:Pos}(he:PE X e te)(hs:PE X st ts)(hK:X.K=K:=by rfl):PE X (.Subscript e (.Slice none none (some st) p2) pos) (O0 K te ts):=by
 subst hK;intro pins s σ H Q I h;refine Subscript_ (cD Δ fun v s1 ⟨x,H1,I1,r1,q1⟩=>?_);refine wpAny_Slice ?_;rw[evalPart_none];refine wpAny_pure (W0 ?_);refine cD (hs pins s1 σ H1 _ I1 q1) fun w s3 ⟨y,H3,I3,ry,q3⟩=>?_
 obtain⟨rfl,a,xs,rfl,hx,q⟩:=q3;cases r1;obtain⟨t,rfl⟩:=ry;have I4:Inv X pins σ H3 {s3 with heap:=s3.heap.push {cls:= .type "slice",data:= .fields #[.none, .none, .int (-1) t]}}:=I3.kept (t':=s3.toks) fun b ob q=>YG q
 obtain⟨its,r,ht,hz⟩:=I4.list hx;have hlen:=r.length;show wpAny (model X.prog X.w) X.A (subscriptTail e (.Slice none none (some st) p2) (.ref a) (.ref s3.heap.objs.size)) (EP X pins σ Q) X.xe _;refine tail_any (ops:=[.ref a, .ref s3.heap.objs.size]) ht.isList.typeIs slot_list_getitem.lookup ?_ (by with_unfolding_all rfl);refine wpAny_getItem_list_slice ht.isList (Heap.IsSliceOf.new ..) .none .none (.int (-1) t) (IM) ?_ (by rw[List.size_toArray];lia);have e:slicePick its.toArray none none (some (-1))=((sliceRange ((xs.length:Int)-1) (-1) (-1)).filterMap (its[·]?)).toArray:=by
  have e9:sliceBounds none none (some (-1)) its.toArray.size=((xs.length:Int)-1,-1,-1):=by
   rw[List.size_toArray,←hlen];simp[sliceBounds]
  unfold slicePick;rw[e9];simp
 rw[e];have e8:=Ga xs;refine⟨.ref _,_,I4.laid (t':=s3.toks) (o:= .lst xs.reverse) (fun b ob q=>YG q) (Nat.le_refl _) ?_,rfl,q _ (I4.bU.fresh YH)⟩;have r9:=r.pick (sliceRange ((xs.length:Int)-1) (-1) (-1));rw[e8]at r9;exact⟨by rw[List.length_reverse];exact hz,_,0,r9,Heap.get?_push_size _ rfl⟩
end
theorem Gb(q:Pr):id (id q)=q:=rfl
theorem y6.keep{H H':Hp}{ws:List V}{ks:List Ky}(D:y6 H ws ks)(s:av H H'):y6 H' ws ks:=⟨D.1,fun i x e=>let ⟨t,l,us,h1,h2,h3,P⟩:=D.2 i x e;⟨t,l,us,h1,s _ _ h2,s _ _ h3,P.same s⟩⟩
structure O1(c:Case)(zs:List Str):Prop where
 x:∀w∈c.xs,w∈zs
 y:∀w∈c.ys,w∈zs
 f:∀f∈c.fs,f.1∈zs∧f.2.1∈zs
section
variable{zs rs:List Str}{c:Case}(hl:rs.length=zs.length)(nd:rs.Nodup)(W:O1 c zs)
include hl nd
include W
end
def Vc(n m:Nat)(q:Pr):Prop:=(0≤q.1∧q.1<n)∧0≤q.2∧q.2<m
section
variable{n m:Nat}{S o p least:Int}(hS:0<S)(ho:40*S≤o)(hp:40*S≤p)(hn:n≤40)(hl:1≤least)
structure Un(n m:Nat)(S:Int)(f:Nat→Nat→Option Int):Prop where
 val:∀q,(lf f q).isSome=true→lf f q=some S∧Vc n m q
 all:∀q q',(lf f q).isSome=true→Vc n m q'→q.1-q.2=q'.1-q'.2→(lf f q').isSome=true
include hS ho hp hn
include hl
end
section
variable{n m:Nat}{S o p least:Int}{w:Str}(hS:0<S)(ho:40*S≤o)(hp:40*S≤p)(hn:n≤40)(hl:1≤least)
include hS ho hp hn hl
end
abbrev sR(a:Addr):Option V:=some (.ref a)
abbrev sI(a:Int):Option V:=some (.int a)
abbrev sS(a:Str):Option V:=some (.str a)
end QF
namespace SY
open PySem L2 QF
def top(i:Nat):Stmt:=PySem.Challenge.pw_quotefind_k23_backwards.main.body.getD i (.Pass ⟨0,0,0,0⟩)
abbrev f_:Stmt:=top 28
abbrev my:Stmt:=top 29
abbrev kH:Stmt:=top 34
abbrev jd:Stmt:=top 35
abbrev f':Stmt:=top 36
abbrev gX:Stmt:=top 37
abbrev br:Stmt:=inClass (top 38) 0
abbrev dY:Stmt:=inClass (top 38) 1
abbrev kI:Stmt:=top 11
abbrev AG:Stmt:=top 12
abbrev fQ:Stmt:=top 13
abbrev dJ:Stmt:=inClass (top 14) 1
abbrev eK:Stmt:=inClass (top 14) 0
abbrev gQ:Stmt:=inClass (top 14) 2
abbrev dZ:Stmt:=inClass (top 14) 4
abbrev cT:Stmt:=inClass (top 14) 3
abbrev e6:Stmt:=inClass (top 14) 5
abbrev iB:Stmt:=inClass (top 14) 6
abbrev fR:Stmt:=inClass (top 20) 0
abbrev nK:Stmt:=top 24
abbrev e7:Stmt:=top 21
abbrev gc:Stmt:=inClass (top 7) 0
abbrev iM:Stmt:=inClass (top 7) 1
abbrev ft:Stmt:=inClass (top 7) 2
abbrev e_:Stmt:=inClass (top 7) 3
abbrev gY:Stmt:=inClass (top 7) 4
abbrev fe:Stmt:=inClass (top 8) 0
abbrev fu:Stmt:=inClass (top 8) 1
abbrev dF:Stmt:=inClass (top 8) 2
abbrev eL:Stmt:=inClass (top 8) 3
abbrev jS:Stmt:=top 9
abbrev mz:Stmt:=top 16
abbrev fC:Stmt:=top 17
abbrev gf:Stmt:=top 22
abbrev kJ:Stmt:=top 23
abbrev qL:Stmt:=top 25
abbrev qM:Stmt:=top 40
abbrev kK:Stmt:=top 41
abbrev lN:Stmt:=top 42
abbrev lO:Stmt:=top 43
abbrev iO:Stmt:=top 44
abbrev gh:Stmt:=top 45
abbrev lP:Stmt:=top 46
abbrev lQ:Stmt:=top 47
abbrev lR:Stmt:=top 48
abbrev kL:Stmt:=top 49
abbrev kM:Stmt:=top 50
abbrev kN:Stmt:=top 51
abbrev lS:Stmt:=top 52
abbrev gi:Stmt:=top 53
abbrev gZ:Stmt:=top 54
abbrev iP:Stmt:=top 55
abbrev g7:Stmt:=top 56
abbrev kO:Stmt:=top 57
abbrev lT:Stmt:=top 58
section
variable{P:Program}{w:World}{K:W.Frag}{mg:Str→Option Value}{base:Heap}
variable{d0 cV aU az aA aI ay kb:Addr}
variable(T:TB mg)
theorem nL:aL ["sign"] ["sign"] (au f_):=⟨rfl,rfl,rfl,by decide+kernel,rfl,by decide+kernel,by decide+kernel⟩
include T in
theorem nM{f:Addr}{fd:FuncData}(F:jN K "is_small_letter" "is_small_letter" f_ f fd):aZ P w K mg base (dz P w) true 1 f fd ["sign"] zZ:=by
 refine F.gH nL Wa (fun bV A outer s H vs Q E hr h hX=>?_)
 ·obtain⟨i,rfl,_⟩:=h;rfl
 ·obtain⟨c,rfl,q⟩:=h;refine⟨_,(Lw (X' (@we _ _ _ _ _ _ _ (@iH _ _ _ _ _ _ _ _ vK dR V7 (aV _)) (@wc _ _ _ _ _ (@iH _ _ _ _ _ _ _ _ vK V7 dR (aV _)))))),?_⟩;refine⟨_,rfl,_,_,rfl,rfl,_,rfl,?_⟩;have q:Q (.bl (decide (97≤c)&&decide (c≤122))) H:=q;rw[←R7,←R8]at q;refine ba (fun h=>?_) (fun h=>?_)
  ·refine⟨_,rfl,_,_,rfl,rfl,?_⟩;rw[h,Bool.true_and]at q;exact q
  ·rw[Bool.not_eq_true]at h;rw[h,Bool.false_and]at q;exact q
variable(jw:DX mg "WORD_MOST" (.int 12))
variable(eM:bM P w K mg base true 1 "is_small_letter" ["sign"] zZ)
theorem AH:aL ["text"] ["text"] (au my):=⟨rfl,rfl,rfl,by decide+kernel,rfl,by decide+kernel,by decide+kernel⟩
include T jw eM in
theorem AI{f:Addr}{fd:FuncData}(F:jN K "is_word" "is_word" my f fd):aZ P w K mg base (dz P w) true 2 f fd ["text"] wI:=by
 refine F.gH AH Wa (fun bV A outer s H vs Q E hr h hX=>?_)
 ·obtain⟨i,rfl,_⟩:=h;rfl
 ·obtain⟨z,rfl,hz,q⟩:=h;refine⟨_,(OA (Zo (Zj (Zi (Y7 mQ (ZW oC (ZU V7)) ai) (@pw_or1 _ _ _ _ (Y7 rl (ZW oC (ZU V7)) (Ω jw))))) aQ) (Lw (X' (Z_ (Cu K rfl) T.N7 PyProof.Rows.Boot.«all» (ZU (@jo _ _ _ _ _ _ _ _ _ _ _ _ _ _ (by exact rfl) (show bh ["text"] (au my) _ ["sign"] [] []from⟨rfl,by decide+kernel,by decide+kernel,by decide+kernel,rfl,rfl,by decide+kernel,by decide+kernel,by decide+kernel⟩) (@KW _ _ _ _ (pv 0)) (fun _ _ _ _ _=>(ZT (0) (show(["sign"]:List Str).Nodup by decide+kernel))) (fun _ _ _ _ _=>f7) (fun _ _ _ _ _=>(ZV eM aR (ZU V7))) (by intro _;rfl))))))),?_⟩;have Ve:z.length≤sizeLine:=Nat.le_trans hz ZO;refine⟨_,rfl,z,rfl,Ve,_,_,rfl,rfl,_,rfl,?_⟩;refine ba (fun h=>?_) (fun h=>?_)
  ·have h:((z.length:Nat):Int)<1:=by simpa using h
   refine jO ?_;have e:s_ z=false:=by
    have:¬1≤z.length:=by lia
    simp[s_,this]
   have q:=q H (av.refl H);rw[e]at q;exact q
  have h:¬((z.length:Nat):Int)<1:=by simpa using h
  refine⟨_,rfl,z,rfl,Ve,_,_,rfl,rfl,_,rfl,?_⟩;refine ba (fun h2=>?_) (fun h2=>?_)
  ·have h2:(12:Int)<((z.length:Nat):Int):=by simpa using h2
   have e:s_ z=false:=by
    have:¬z.length≤12:=by lia
    simp[s_,this]
   have q:=q H (av.refl H);rw[e]at q;exact q
  have h2:¬(12:Int)<((z.length:Nat):Int):=by simpa using h2
  have hl:z.length≤12:=by lia
  have e:s_ z=z.cps.toList.all low:=by
   have h3:1≤z.length:=by lia
   simp[s_,h3,hl]
  refine⟨_,rfl,z,rfl,fun D hD=>?_⟩;refine En (fun i ys σ H'=>(∃v,σ=[v])∧ys=(z.cps.toList.take i).map (fun c=>V.bl (low c))∧H'=upd H D (.lst ys)) ⟨⟨_,rfl⟩,rfl,rfl⟩ ?_ ?_
  ·rintro i c ys σ H' hc ⟨⟨v,rfl⟩,hy,rfl⟩;refine nq ?_;refine⟨_,rfl,c,rfl,ae,?_,⟨_,rfl⟩,?_,?_⟩
   ·rw[hy,List.length_map,List.length_take];exact Nat.lt_of_le_of_lt (Nat.min_le_left _ _) (Nat.lt_of_lt_of_le (Zu (ZX hc).1 (by simpa[Str.length]using hl)) (Nn))
   ·rw[hy,List.take_succ,hc];simp
   ·rw[fZ]
  ·rintro ys σ H' ⟨_,hy,rfl⟩;have DG:ys=(z.cps.toList.map low).map V.bl:=by
    rw[hy,List.take_of_length_le (by simp[Str.length])];simp
   rw[DG];refine⟨D,z.cps.toList.map low,rfl,il.of ae,?_⟩;have q:=q _ (av.upd hD:av H (upd H D (.lst ((z.cps.toList.map low).map V.bl))));rw[e]at q;have e3:(z.cps.toList.map low).all id=z.cps.toList.all low:=by rw[List.all_map];rfl
   rw[←e3]at q;exact q
theorem uL:aL ["low","number","high"] ["low","number","high"] (au kH):=⟨rfl,rfl,rfl,by decide+kernel,rfl,by decide+kernel,by decide+kernel⟩
include T in
theorem uM{f:Addr}{fd:FuncData}(F:jN K "is_between" "is_between" kH f fd):aZ P w K mg base (dz P w) true 1 f fd ["low","number","high"] nr:=by
 refine F.gH uL Wa (fun bV A outer s H vs Q E hr h hX=>?_)
 ·obtain⟨l,n,h,rfl,_⟩:=h;rfl
 ·obtain⟨l,n,h,rfl,q⟩:=h;refine⟨_,(Lw (X' (@we _ _ _ _ _ _ _ (@iH _ _ _ _ _ _ _ _ A7 V7 (pv 1) (aV _)) (@wc _ _ _ _ _ (@iH _ _ _ _ _ _ _ _ A7 Rl (pv 2) (aV _)))))),?_⟩;refine⟨_,rfl,_,rfl,_,_,rfl,rfl,_,rfl,?_⟩;refine ba (fun h1=>?_) (fun h1=>?_)
  ·refine⟨_,rfl,_,rfl,_,_,rfl,rfl,?_⟩;rw[h1,Bool.true_and]at q;exact q
  ·rw[Bool.not_eq_true]at h1;rw[h1,Bool.false_and]at q;exact q
variable(d6:bM P w K mg base true 1 "is_between" ["low","number","high"] nr)
variable(je:Er K mg "BadTerms" d0)
theorem rR:aL ["name","number","low","high"] ["name","number","low","high"] (au jd):=⟨rfl,rfl,rfl,by decide+kernel,rfl,by decide+kernel,by decide+kernel⟩
include T d6 je in
theorem rS{f:Addr}{fd:FuncData}(F:jN K "check_number" "check_number" jd f fd):aZ P w K mg base (dz P w) true 2 f fd ["name","number","low","high"] (qp d0):=by
 refine F.gH rR Wa (fun bV A outer s H vs Q E hr h hX=>?_)
 ·obtain⟨nm,n,l,h,rfl,_⟩:=h;rfl
 ·obtain⟨nm,n,l,h,rfl,hn,hl,hh,q⟩:=h;refine⟨_,(Lw (Yh (@dH _ _ _ _ (ZR (ZV d6 aR (Z1 W4 (zr Rl))))) (Lw (ν hX ZE (by exact rfl) je.m je.e (ZU (@ma _ _ _ _ _ _ (@fq _ _ _ _ _ (@qo _ _ _ _ (pv 0)) (@fq _ _ _ _ _ dR (@fq _ _ _ _ _ (@qo _ _ _ _ (pv 2)) (@fq _ _ _ _ _ dR (@fq _ _ _ _ _ (@qo _ _ _ _ (pv 3)) wF))))))))) aQ)),?_⟩;refine⟨_,rfl,_,rfl,_,rfl,l,n,h,rfl,?_⟩;refine⟨_,rfl,?_⟩;refine ba (fun h1=>?_) (fun h1=>?_)
  ·have h1:inR l n h=false:=(Bool.not_eq_true' _).mp h1;rw[h1]at q;have z1:=oM (i:=l) (by lia);have z2:=oM (i:=h) (by lia);have w1:(Zk " lies between ").length=14:=by decide+kernel
   have w2:(Zk " and ").length=5:=by decide+kernel
   have w3:=me;refine⟨_,rfl, .inl ⟨nm,rfl,aD D9,nm,rfl,aD ?_,_,rfl,aD ?_,_,rfl, .inr ⟨l,rfl,z1.1,_,rfl,aD ?_,_,rfl,aD ?_,_,rfl, .inr ⟨h,rfl,z2.1,_,rfl,aD ?_,aD ?_,ic,?_⟩⟩⟩⟩
   ·rw[len_app];lia
   ·rw[len_app,len_app];lia
   ·rw[len_app,len_app,len_app];lia
   ·rw[len_app,len_app,len_app,len_app];lia
   ·rw[len_app,len_app,len_app,len_app,len_app];lia
   ·rw[len_app,len_app,len_app,len_app,len_app];lia
   ·exact q
  ·have h1:inR l n h=true:=by
    have h1:¬(!(inR l n h))=true:=h1;simpa using h1
   rw[h1]at q;exact q
variable(bQ:DX mg "WORTH_MOST" (.int 999999))
variable(kc:bM P w K mg base true 2 "is_word" ["text"] wI)
variable(bZ:Er K mg "BadNear" cV)
theorem nN:aL ["x","y","price"] ["x","y","price"] (au f'):=⟨rfl,rfl,rfl,by decide+kernel,rfl,by decide+kernel,by decide+kernel⟩
include T d6 bQ kc bZ in
theorem nP{f:Addr}{fd:FuncData}(F:jN K "check_near_form" "check_near_form" f' f fd):aZ P w K mg base (dz P w) true 3 f fd ["x","y","price"] (wJ cV):=by
 refine F.gH nN Wa (fun bV A outer s H vs Q E hr h hX=>?_)
 ·obtain⟨x,y,p,rfl,_⟩:=h;rfl
 ·obtain⟨x,y,p,rfl,hx,hy,q⟩:=h;have bad:iy x y p=false→∀H',av H H'→E (.ref cV) none H':=fun e=>by rw[e]at q;exact q
  have good:iy x y p=true→∀H',av H H'→Q .cJ H':=fun e=>by rw[e]at q;exact q
  refine⟨_,(OA (τ (Zj (Zi (@dH _ _ _ _ (ZR (ZV kc aR (ZU V7)))) (@pw_or1 _ _ _ _ (@dH _ _ _ _ (ZR (ZV kc aR (ZU Rl))))))) aQ) (OA (τ (Y7 jn V7 (pv 1)) aQ) (Lw (Yh (@dH _ _ _ _ (ZR (ZV d6 aR (Z1 ai (ω W4))))) (Lw (ν hX ZE (by exact rfl) bZ.m bZ.e (ZU (@ma _ _ _ _ _ _ (@fq _ _ _ _ _ dR (@fq _ _ _ _ _ (@qo _ _ _ _ (Ω bQ)) wF)))))) aQ)))),?_⟩;refine⟨_,rfl,x,rfl,hx,fun H1 s1=>⟨_,rfl,?_⟩⟩;refine ba (fun h1=>?_) (fun h1=>?_)
  ·have h1:(!(s_ x))=true:=h1;exact⟨ic,bad (by simp[iy,(Bool.not_eq_true' _).mp h1]) H1 s1⟩
  have h1:¬(!(s_ x))=true:=h1;have h1:s_ x=true:=by simpa using h1
  refine⟨_,rfl,y,rfl,hy,fun H2 s2=>⟨_,rfl,?_⟩⟩;have s2:=s1.trans s2;refine ba (fun h2=>?_) (fun h2=>?_)
  ·have h2:(!(s_ y))=true:=h2;exact⟨ic,bad (by simp[iy,(Bool.not_eq_true' _).mp h2]) H2 s2⟩
  have h2:¬(!(s_ y))=true:=h2;have h2:s_ y=true:=by simpa using h2
  refine⟨_,rfl,_,rfl,rfl,_,rfl,?_⟩;refine ba (fun h3=>?_) (fun h3=>?_)
  ·have h3:x=y:=by simpa using h3
   exact⟨ic,bad (by simp[iy,h3]) H2 s2⟩
  have h3:¬x=y:=by simpa using h3
  refine⟨_,rfl,0,p,999999,rfl,_,rfl,?_⟩;refine ba (fun h4=>?_) (fun h4=>?_)
  ·have h4:(!(inR 0 p 999999))=true:=h4;have z1:=oM (i:=999999) (by lia);have w1:(Zk "the price of a near form lies between 0 and ").length=44:=by decide+kernel
   have w3:=me;refine⟨_,rfl,aD ?_, .inr ⟨999999,rfl,z1.1,_,rfl,aD ?_,aD ?_,ic,?_⟩⟩
   ·rw[len_app];lia
   ·rw[len_app,len_app];lia
   ·rw[len_app,len_app];lia
   ·exact bad (by simp[iy,(Bool.not_eq_true' _).mp h4]) H2 s2
  ·have h4:¬(!(inR 0 p 999999))=true:=h4;have h4:inR 0 p 999999=true:=by simpa using h4
   exact good (by simp[iy,h1,h2,h3,h4]) H2 s2
variable(ik:DX mg "NEAR_MOST" (.int 60))
variable(eO:bM P w K mg base true 3 "check_near_form" ["x","y","price"] (wJ cV))
theorem ff:aL ["near","prices","x","y","price"] ["near"] (au gX):=⟨rfl,rfl,rfl,by decide+kernel,rfl,by decide+kernel,by decide+kernel⟩
include T bZ ik eO in
theorem t9{f:Addr}{fd:FuncData}(F:jN K "near_prices" "near_prices" gX f fd):aZ P w K mg base (dz P w) true 4 f fd ["near"] (qr cV):=by
 refine F.gH ff Wa (fun bV A outer s H vs Q E hr h hX=>?_)
 ·obtain⟨a,xs,fs,rfl,_⟩:=h;rfl
 ·obtain⟨a,xs,fs,rfl,ha,ht,NP,q⟩:=h;have bad:bO fs=false→∀H',av H H'→E (.ref cV) none H':=fun e=>by rw[e]at q;exact q
  have good:bO fs=true→∀H' d,av H H'→H d=none→H' d=some (.dT (fs.map lF))→Q (.ref d) H':=fun e=>by rw[e]at q;exact q
  have hu:=hr.units;have hu:(A.deeper (Zp "near_prices" (au gX) f bV)).units+1<cLine:=by lia
  refine⟨_,(OA (Yh (Y7 rl (ZW (aJ K) (ZU V7)) (Ω ik)) (Lw (ν hX ZE (by exact rfl) bZ.m bZ.e (ZU (@ma _ _ _ _ _ _ (@fq _ _ _ _ _ dR (@fq _ _ _ _ _ (@qo _ _ _ _ (Ω ik)) (@fq _ _ _ _ _ dR wF))))))) aQ) (OA (ZS (1) ff.nd j1) (OA (Z5 (ZH K V7) (Β K (3) (ZG (ZT (2) ff.nd) (ZG (ZT (3) ff.nd) (ZG (ZT (4) ff.nd) fF)))) (OA (Y_ (ZV eO hX.pass (Z1 W4 (Z1 W5 (ZU Xr))))) (OA (τ (Z' (@qm _ _ _ _ _ hu (Zm (zr W4)) (pv 1))) aQ) (Lw (@ku _ _ _ _ _ _ _ _ _ hu Rl (Zm (zr W4)) (pv 4) (by exact rfl)))))) (Lw (X' Rl))))),?_⟩;refine⟨_,rfl,a,_,rfl, .inl (.of ha),_,_,rfl,rfl,_,rfl,?_⟩;refine ba (fun h1=>?_) (fun h1=>?_)
  ·have h1:(60:Int)<(xs.length:Int):=by simpa using h1
   rw[ht.1]at h1;have z1:=oM (i:=60) (by lia);have w1:(Zk "there are at most ").length=18:=by decide+kernel
   have w2:(Zk " near forms").length=11:=by decide+kernel
   have w3:=me;refine⟨_,rfl,aD ?_, .inr ⟨60,rfl,z1.1,_,rfl,aD ?_,_,rfl,aD ?_,aD ?_,ic,?_⟩⟩
   ·rw[len_app];lia
   ·rw[len_app,len_app];lia
   ·rw[len_app,len_app,len_app];lia
   ·rw[len_app,len_app,len_app];lia
   ·exact bad (by have:¬fs.length≤60:=(by lia);simp[bO,this]) H (.refl H)
  have h1:¬(60:Int)<(xs.length:Int):=by simpa using h1
  rw[ht.1]at h1;refine fun d hd=>?_
  have abT:H a≠none:=by rw[ha];intro z;cases z
  have cG:a≠d:=aC ha hd;refine⟨_,rfl,a,rfl,⟨xs, .of (by rw[aj cG];exact ha)⟩,?_⟩;refine bW (xs:=xs) (fun i σ H'=>(∃u v w,σ=[sR a,sR d,u,v,w])∧H' d=some (.dT ((fs.take i).map lF))∧av H H'∧((fs.take i).all Dx=true)∧((fs.take i).map lh).Nodup) ?_ ?_ ?_ ?_
  ·exact⟨⟨_,_,_,rfl⟩,ae,UO hd,rfl, .nil⟩
  ·rintro i σ H' hi ⟨_,_,s1,_⟩;exact .of (s1 _ _ ha)
  ·rintro i x σ H' hx ⟨⟨u,v,w,rfl⟩,hD,s1,bU,Gx⟩;have hi:i<fs.length:=by rw[←ht.1];exact(ZX hx).1
   have hf:fs[i]?=some fs[i]:=by simp[hi]
   generalize fs[i]=f0 at hf;obtain⟨t,ye,uD⟩:=ht.2 i f0 hf;rw[hx]at ye;cases ye;obtain⟨x,y,p⟩:=f0;have hm:(x,y,p)∈fs:=WI hf;obtain⟨lp,Gy⟩:=NP.2 _ hm;refine⟨t,_,rfl, .of (s1 _ _ uD),rfl,_,_,rfl,_,_,rfl,_,_,rfl,rfl,?_⟩;refine⟨_,rfl,_,rfl,_,rfl,x,y,p,rfl,lp,Gy,?_⟩;refine ba (fun h2=>?_) (fun h2=>?_)
   rotate_left
   ·have h2:Dx (x,y,p)=false:=by simpa[Dx]using h2
    exact fun H2 s2=>bad (Ex hf h2) H2 (s1.trans s2)
   have h2:Dx (x,y,p)=true:=h2;intro H2 s2;have QC:=s1.trans s2;have la:=s2 _ _ hD;refine⟨_,rfl,_,rfl,aD Mi,fun p1 E8=>?_⟩;have n1:d≠p1:=aC la E8;refine⟨_,rfl,d,_,rfl, .t (k:=lh (x,y,p)) (by rw[aj n1];exact la) ae,_,rfl,?_⟩;refine ba (fun h3=>?_) (fun h3=>?_)
   ·obtain⟨v3,h3⟩:=Option.isSome_iff_exists.mp h3;exact⟨ic,bad (Cv hf (K2 h3)) _ (QC.eR (QC.free E8))⟩
   have h3:bu ((fs.take i).map lF) (lh (x,y,p))=none:=by simpa using h3
   have s3:av H (upd H2 p1 (.tup [.str x, .str y])):=QC.eR (QC.free E8);refine⟨_,rfl,_,rfl,_,rfl,_,rfl,aD Mi,fun p2 Cg=>?_⟩;have Df:upd H2 p1 (.tup [.str x, .str y]) d=some (.dT ((fs.take i).map lF)):=by rw[aj n1];exact la
   have n2:d≠p2:=aC Df Cg;have hlen:((fs.take i).map lF).length<sizeLine:=a_ (by rw[List.length_map,List.length_take];lia);refine⟨d,_,rfl, .t (k:=lh (x,y,p)) (by rw[aj n2];exact Df) ae hlen,?_⟩;refine⟨⟨_,_,_,rfl⟩,?_,?_,?_,?_⟩
   ·rw[ae,sU _ h3,Cw hf];rfl
   ·exact(s3.eR (s3.free Cg)).eR hd
   ·rw[List.take_succ,hf,List.all_append,bU];simp[h2]
   ·rw[List.take_succ,hf,List.map_append];have:=N8 h3;refine List.nodup_append.mpr ⟨Gx,IM,?_⟩;intro a1 Ak b1 jT e;have jT:b1=lh (x,y,p):=by simpa using jT
    rw[e,jT]at Ak;exact this Ak
  ·rintro σ H' ⟨⟨u,v,w,rfl⟩,hD,s1,bU,Gx⟩;rw[ht.1,List.take_length]at hD bU Gx;refine⟨_,rfl,good ?_ H' d s1 hd hD⟩;have:fs.length≤60:=by lia
   simp[bO,this,bU,Gx]
variable(jx:DX mg "PART_MOST" (.int 100))
variable(cy:bM P w K mg base true 2 "check_number" ["name","number","low","high"] (qp d0))
variable(g8:bM P w K mg base true 4 "near_prices" ["near"] (qr cV))
variable(Tc:Ey K aU)
theorem o7:aL ["self","same","out","into","least","part","near"] ["self","same","out","into","least","part","near"] (au br):=⟨rfl,rfl,rfl,by decide+kernel,rfl,by decide+kernel,by decide+kernel⟩
include T bQ jx cy g8 Tc in
theorem o8{f:Addr}{fd:FuncData}(F:iu K "__init__" "Terms.__init__" br f fd):aZ P w K mg base (dz P w) true 5 f fd ["self","same","out","into","least","part","near"] (sD aU d0 cV):=by
 refine F.gH o7 Wa (fun bV A outer s H vs Q E hr h hX=>?_)
 ·obtain⟨x,dx,n,nv,xs,fs,rfl,_⟩:=h;rfl
 ·obtain⟨x,dx,n,nv,xs,fs,rfl,hx,EJ,XX,NP,q⟩:=h;have bad:i9 n=false→E (.ref d0) none H:=fun e=>by rw[e]at q;exact q H .refl
  refine⟨_,(OA (Y_ (ZV cy hX.pass (Z1 dR (η Rl)))) (OA (Y_ (ZV cy hX.pass (Z1 dR (η W4)))) (OA (Y_ (ZV cy hX.pass (Z1 dR (η W5)))) (OA (Y_ (ZV cy hX.pass (Z1 dR (η Xr)))) (OA (Y_ (ZV cy hX.pass (Z1 dR (Z1 (pv 5) (Z1 ai (ZU (Ω jx))))))) (OA (Zg K V7 (pv 1)) (OA (Zg K V7 (pv 2)) (OA (Zg K V7 (pv 3)) (OA (Zg K V7 (pv 4)) (OA (Zg K V7 (pv 5)) (UN (Zg K V7 (@ow _ _ _ _ _ _ _ _ (Z' (@lB _ _ _ _ _ (pv 6))) (ZC af) (Ψ (gU K) (by exact rfl) T.lE PyProof.Rows.Boot.«list» (ZU (pv 6))))) (Lw (Zg K V7 (ZV g8 hX.pass (ZU (ZY K)))))))))))))))),?_⟩;refine⟨_,rfl,"same",n.same,1,999999,rfl,by decide+kernel,by lia,by lia,?_⟩;refine ba (fun h1=>?_) (fun h1=>bad (by simp[i9,h1]));refine⟨_,rfl,"out",n.out,0,999999,rfl,by decide+kernel,by lia,by lia,?_⟩;refine ba (fun h2=>?_) (fun h2=>bad (by simp[i9,h2]));refine⟨_,rfl,"into",n.into,0,999999,rfl,by decide+kernel,by lia,by lia,?_⟩;refine ba (fun h3=>?_) (fun h3=>bad (by simp[i9,h3]));refine⟨_,rfl,"least",n.least,1,999999,rfl,by decide+kernel,by lia,by lia,?_⟩;refine ba (fun h4=>?_) (fun h4=>bad (by simp[i9,h4]));refine⟨_,rfl,"part",n.part,1,100,rfl,by decide+kernel,by lia,by lia,?_⟩;refine ba (fun h5=>?_) (fun h5=>bad (by simp[i9,h5]));have bU:i9 n=true:=by simp[i9,h1,h2,h3,h4,h5]
  rw[bU]at q;have hl:∀k:Nat,k<10→k<1000:=fun k h=>by lia
  refine⟨_,rfl,_,rfl,x,aU,dx,_,rfl,hx,Tc.cl,Tc.same,Nn,?_⟩;refine⟨_,rfl,_,rfl,x,aU,dx,_,rfl,ae,Tc.cl,Tc.out,?_,?_⟩
  ·exact hl _ (by have:=aW "same" (.int n.same) [];simp at this;lia)
  refine⟨_,rfl,_,rfl,x,aU,dx,_,rfl,ae,Tc.cl,Tc.into,?_,?_⟩
  ·exact hl _ (Nat.lt_of_le_of_lt (aW _ _ _) (by have:=aW "same" (.int n.same) [];simp at this;lia))
  refine⟨_,rfl,_,rfl,x,aU,dx,_,rfl,ae,Tc.cl,Tc.least,?_,?_⟩
  ·show([("same", .int n.same),("out", .int n.out),("into", .int n.into)]:List (Str×V)).length<1000;simp
  refine⟨_,rfl,_,rfl,x,aU,dx,_,rfl,ae,Tc.cl,Tc.part,?_,?_⟩
  ·show([("same", .int n.same),("out", .int n.out),("into", .int n.into),("least", .int n.least)]:List (Str×V)).length<1000;simp
  rw[fZ,fZ,fZ,fZ,R9];have b5:SameBut x H (upd H x (.ins aU dx (mT n))):=SameBut.refl.upd;refine⟨fun σ H'=>σ=[sR x,sI n.same,sI n.out,sI n.into,sI n.least,sI n.part,some nv]∧∃l,H' x=some (.ins aU dx (bp "near" (.ref l) (mT n)))∧SameBut x H H'∧H' l=some (.lst xs)∧dQ H' xs fs∧H l=none,?_,?_⟩
  ·refine⟨_,rfl,_,rfl,?_⟩;rcases XX with⟨rfl,rfl,rfl⟩|⟨a,rfl,ha,QD⟩
   ·refine jO ?_;refine⟨aD Mi,fun l lb=>?_⟩;have n1:x≠l:=aC ae lb;refine⟨_,rfl,x,aU,dx,_,rfl,by rw[aj n1,ae],Tc.cl,Tc.near,by simp[mT],rfl,l,ae,?_,?_, .nil,?_⟩
    ·exact(b5.laid (b5.free ae lb)).upd
    ·rw[aj (WR n1),ae]
    ·exact b5.free ae lb
   ·refine ba (fun hh=>Zy hh) (fun _=>?_);have n0:a≠x:=Ι ha hx;refine⟨_,rfl,a,xs,rfl, .inl (.of (by rw[aj n0];exact ha)),fun l lb=>?_⟩;have n1:x≠l:=aC ae lb;have b6:SameBut x H (upd (upd H x (.ins aU dx (mT n))) l (.lst xs)):=b5.laid (b5.free ae lb);refine⟨_,rfl,x,aU,dx,_,rfl,by rw[aj n1,ae],Tc.cl,Tc.near,by simp[mT],rfl,l,ae,b6.upd,?_,?_,?_⟩
    ·rw[aj (WR n1),ae]
    ·exact QD.but b6.upd hx
    ·exact b5.free ae lb
  ·rintro σ H' ⟨rfl,l,uC,sb,JA,QD,XY⟩;refine⟨_,rfl,x,aU,dx,_,_,rfl,uC,Tc.cl,Tc.near,N_ n l,l,xs,fs,rfl,JA,QD,NP,?_⟩;refine ba (fun h6=>?_) (fun h6=>?_)
   ·rw[if_pos rfl,HB h6]at q;intro H2 d s2 hd hD;have b2:=sb.same s2;have XZ:=sb.free uC hd;refine⟨_,rfl,x,aU,dx,_,rfl,s2 _ _ uC,Tc.cl,Tc.Ez,?_,?_⟩
    ·have:=aW "near" (.ref l) (mT n);have e5:(mT n).length=5:=rfl;exact hl _ (by lia)
    ·have nl:l≠x:=i5 JA uC (by intro z;cases z);have nd:d≠x:=Ι hD (s2 _ _ uC);have Vf:dx≠x:=Ι EJ hx;refine q _ l d b2.upd ⟨?_,?_,?_,?_,?_⟩ XY XZ
     ·rw[ae,R_]
     ·rw[aj Vf];exact b2 _ _ Vf EJ
     ·rw[aj nl];exact s2 _ _ JA
     ·exact QD.but (SameBut.upd (fun b u n e=>s2 b u e)) uC
     ·rw[aj nd];exact hD
   ·rw[if_pos rfl,Dt h6]at q;exact fun H2 s2=>q H2 (sb.same s2)
theorem iG:aL ["self","x","y","price"] ["self","x","y"] (au dY):=⟨rfl,rfl,rfl,by decide+kernel,rfl,by decide+kernel,by decide+kernel⟩
include T Tc in
theorem mF{f:Addr}{fd:FuncData}(F:iu K "pair_worth" "Terms.pair_worth" dY f fd):aZ P w K mg base (dz P w) true 1 f fd ["self","x","y"] (wN aU):=by
 refine F.gH iG Wa (fun bV A outer s H vs Q E hr h hX=>?_)
 ·obtain⟨t,x,y,n,fs,dx,l,d,xs,rfl,_⟩:=h;rfl
 ·obtain⟨t,x,y,n,fs,dx,l,d,xs,rfl,T1,q⟩:=h;have hu:=hr.units;have hu:(A.deeper (Zp "Terms.pair_worth" (au dY) f bV)).units+1<cLine:=by lia
  refine⟨_,(OA (Yh (Y7 jn Rl (pv 2)) (Lw (X' (ZY K))) aQ) (OA (ZS (3) iG.nd (@D8 _ _ _ _ _ _ _ hu (ZY K) (Zm (Χ Rl)) ⟨rfl,rfl,rfl,rfl⟩)) (OA (Yh (Z' (@lB _ _ _ _ _ (pv 3))) (Lw (X' jL)) aQ) (Lw (X' (Z2 bI (ZY K) (pv 3))))))),?_⟩;refine⟨_,rfl,_,rfl,rfl,_,rfl,?_⟩;refine ba (fun h=>?_) (fun h=>?_)
  ·have h:x=y:=by simpa using h
   have q:=q H (.refl H);rw[show cY n.same fs x y=some n.same by simp[cY,h]]at q;exact⟨_,rfl,t,aU,dx,_,_,rfl,T1.ob,Tc.cl,Tc.same,EA n l d,q⟩
  have h:¬x=y:=by simpa using h
  refine⟨_,rfl,t,aU,dx,_,_,rfl,T1.ob,Tc.cl,Tc.Ez,EB n l d,d,rfl, .inr ⟨_, .inl T1.di⟩,_,rfl,_,rfl,aD Mi,fun p hp=>?_⟩;have nd:d≠p:=aC T1.di hp;have q:=q _ (av.upd (o:= .tup [.str x, .str y]) hp);refine⟨_, .t (k:=[.inr x, .inr y]) (by rw[aj nd];exact T1.di) ae,?_⟩;rw[vL];have T2:ky (upd H p (.tup [.str x, .str y])) aU t n fs dx l d xs:=⟨av.upd hp _ _ T1.ob,av.upd hp _ _ T1.own,av.upd hp _ _ T1.li,T1.tr.same (UO hp),av.upd hp _ _ T1.di⟩
  cases e:dX fs x y with
  |none=>
   rw[show cY n.same fs x y=none by simp[cY,h,e]]at q;refine⟨_,rfl,_,rfl,?_⟩;exact jO q
  |some v=>
   rw[show cY n.same fs x y=some (n.same-v) by simp[cY,h,e]]at q;refine⟨_,rfl,_,rfl,?_⟩;refine ba (fun hh=>Zy hh) (fun _=>?_);exact⟨_,rfl,t,aU,dx,_,_,rfl,T2.ob,Tc.cl,Tc.same,EA n l d,_,rfl,_,_,rfl,rfl,q⟩
theorem y8:aL ["numbers"] ["numbers"] (au kI):=⟨rfl,rfl,rfl,by decide+kernel,rfl,by decide+kernel,by decide+kernel⟩
include T in
theorem y9{f:Addr}{fd:FuncData}(F:jN K "greatest" "greatest" kI f fd):aZ P w K mg base (dz P w) true 1 f fd ["numbers"] lI:=by
 refine F.gH y8 Wa (fun bV A outer s H vs Q E hr h hX=>?_)
 ·obtain⟨a,os,rfl,_⟩:=h;rfl
 ·obtain⟨a,os,rfl,ha,hl,q⟩:=h;refine⟨_,(Lw (X' (@Hv _ K _ _ _ _ _ _ _ (by exact rfl) (by exact rfl) T.Jd (@jo _ _ _ _ _ _ _ _ _ _ _ _ _ _ (by exact rfl) (show bh ["numbers"] (au kI) _ ["number"] [] []from⟨rfl,by decide+kernel,by decide+kernel,by decide+kernel,rfl,rfl,by decide+kernel,by decide+kernel,by decide+kernel⟩) (ZH K V7) (fun _ _ _ _ _=>(ZT (0) (show(["number"]:List Str).Nodup by decide+kernel))) (fun _ _ _ _ _=>(@Bg _ _ _ (Z' (@ot _ _ _ _ _ (pv 0))))) (fun _ _ _ _ _=>(pv 0)) (by intro _;rfl)) (XR) (XR)))),?_⟩;refine⟨_,rfl,a,rfl,⟨_, .of ha⟩,fun D hD=>?_⟩;refine fV (xs:=os.map bB) (fun i ys bx H'=>(∃u,bx=[u])∧ys=((os.take i).filterMap id).map V.int∧H' D=some (.lst ys)∧av H H') ⟨⟨_,rfl⟩,rfl,ae,UO hD⟩ ?_ ?_ ?_
  ·rintro i ys bx H' _ ⟨_,_,_,s1⟩;exact .of (s1 _ _ ha)
  ·rintro i x ys bx H' hx ⟨⟨u,rfl⟩,rfl,rT,s1⟩;have hi:i<os.length:=by have:=(ZX hx).1;simpa using this
   have ho:os[i]?=some os[i]:=by simp[hi]
   generalize os[i]=o at ho;have ex:x=bB o:=by
    rw[List.getElem?_map,ho]at hx;exact(WK hx).symm
   subst ex;have hZ:(((os.take i).filterMap id).map V.int).length<sizeLine:=a_ (by
    have:=List.length_filterMap_le id (os.take i);rw[List.length_take]at this;rw[List.length_map]
    lia)
   have e1:os.take (i+1)=os.take i++[o]:=by rw[List.take_succ,ho];rfl
   refine⟨_,rfl,_,rfl,?_⟩;cases o with
   |none=>
    refine ba Τ (fun _=>?_);exact⟨⟨_,rfl⟩,by rw[e1];simp,rT,s1⟩
   |some v=>
    refine ba (fun _=>?_) (fun hh=>V' (by simp[bB]) hh);exact⟨_,rfl,rT,hZ,⟨_,rfl⟩,by rw[e1];simp[bB],ae,s1.eR hD⟩
  ·rintro ys bx H' ⟨_,rfl,rT,s1⟩;rw[List.length_map,List.take_length]at rT;refine⟨D,os.filterMap id,rfl, .of rT,?_⟩;rw[Hy];exact q H' s1
theorem Ih:aL ["number","price"] ["number","price"] (au AG):=⟨rfl,rfl,rfl,by decide+kernel,rfl,by decide+kernel,by decide+kernel⟩
include T in
theorem Ii{f:Addr}{fd:FuncData}(F:jN K "less" "less" AG f fd):aZ P w K mg base (dz P w) true 1 f fd ["number","price"] wY:=by
 refine F.gH Ih Wa (fun bV A outer s H vs Q E hr h hX=>?_)
 ·obtain⟨o,p,rfl,_⟩:=h;rfl
 ·obtain⟨o,p,rfl,q⟩:=h;refine⟨_,(Lw (X' (@ow _ _ _ _ _ _ _ _ (Z' (@lB _ _ _ _ _ (pv 0))) jL (Z2 bI V7 (pv 1))))),?_⟩;refine⟨_,rfl,_,rfl,?_⟩;cases o with
  |none=>
   refine jO ?_;exact q
  |some v=>
   refine ba Τ (fun _=>?_);exact⟨_,rfl,_,rfl,_,_,rfl,rfl,q⟩
theorem mG:aL ["worth","brought"] ["worth","brought"] (au fQ):=⟨rfl,rfl,rfl,by decide+kernel,rfl,by decide+kernel,by decide+kernel⟩
include T in
theorem mH{f:Addr}{fd:FuncData}(F:jN K "begun_or_gone_on" "begun_or_gone_on" fQ f fd):aZ P w K mg base (dz P w) true 1 f fd ["worth","brought"] Ae:=by
 refine F.gH mG Wa (fun bV A outer s H vs Q E hr h hX=>?_)
 ·obtain⟨w,b,rfl,_⟩:=h;rfl
 ·obtain⟨w,b,rfl,q⟩:=h;refine⟨_,(OA (Yh (Z' (@lB _ _ _ _ _ (pv 0))) (Lw (X' jL)) aQ) (OA (Yh (Zj (Zi (Z' (@lB _ _ _ _ _ (pv 1))) (@pw_or1 _ _ _ _ (Y7 mQ Rl ai)))) (Lw (X' V7)) aQ) (Lw (X' (Z2 bC V7 (pv 1)))))),?_⟩;refine⟨_,rfl,_,rfl,?_⟩;cases w with
  |none=>
   refine jO ?_;exact q
  |some w=>
   refine ba Τ (fun _=>?_);refine⟨_,rfl,_,rfl,?_⟩;cases b with
   |none=>
    refine jO ?_;refine jO ?_;exact⟨_,rfl,q⟩
   |some b=>
    refine ba Τ (fun _=>?_);refine⟨_,rfl,_,_,rfl,rfl,_,rfl,?_⟩;refine ba (fun hh=>?_) (fun hh=>?_)
    ·have hh:b<0:=by simpa using hh
     simp only[Hx,hh,if_true]at q;exact⟨_,rfl,q⟩
    ·have hh:¬b<0:=by simpa using hh
     simp only[Hx,hh,if_false]at q;exact⟨_,rfl,_,rfl,_,_,rfl,rfl,q⟩
variable(fg:bM P w K mg base true 1 "greatest" ["numbers"] lI)
variable(kP:bM P w K mg base true 1 "less" ["number","price"] wY)
variable(Rc:Bp K az)
theorem ck:aL ["self","ended","above","row","j","worth"] ["self","ended","above"] (au dJ):=⟨rfl,rfl,rfl,by decide+kernel,rfl,by decide+kernel,by decide+kernel⟩
include T fg kP Rc in
theorem jU{f:Addr}{fd:FuncData}(F:iu K "brought_behind" "Trails.brought_behind" dJ f fd):aZ P w K mg base (dz P w) true 2 f fd ["self","ended","above"] (qx az):=by
 refine F.gH ck Wa (fun bV A outer s H vs Q E hr h hX=>?_)
 ·obtain⟨x,e,a,dx,te,tb,o,p,m,f,g,rfl,_⟩:=h;rfl
 ·obtain⟨x,e,a,dx,te,tb,o,p,m,f1,g,rfl,hx,he,ha,hm,q⟩:=h;refine⟨_,(OA (ZS (3) ck.nd (ZC (ZU jL))) (OA (Z5 (@oO _ K _ _ _ _ _ _ _ (by exact rfl) T.jq (ZU Rl) (XR) (XR)) (Β K (2) (ZG (ZT (4) ck.nd) (ZG (ZT (5) ck.nd) fF))) (Lw (Y_ (ZZ K bR W5 (ZU (ZV fg aR (ZU (ZC (Z1 (pv 5) (Z1 (ZV kP aR (μ (Z0 W4 (Z2 bC Xr ai)))) (ZU (ZV kP aR (μ (Z0 W5 (pv 4))))))))))))))) (Lw (X' W5)))),?_⟩;refine⟨aD Mi,fun r Gz=>?_⟩;refine⟨_,rfl,e,rfl,⟨_, .of (av.upd Gz _ _ he)⟩,?_⟩;have hl:=c_ m f1;refine yC (xs:=c7 m f1) (fun i σ H'=>(∃u v,σ=[sR x,sR e,sR a,sR r,u,v])∧av H H'∧H' r=some (.lst (c7 (i+1) (rP f1 g o p)))) ?_ ?_ ?_ ?_
  ·exact⟨⟨_,_,rfl⟩,UO Gz,by rw[ae];simp[c7,rP,bB,List.range_succ]⟩
  ·rintro i σ H' _ ⟨_,s1,_⟩;exact .of (s1 _ _ he)
  ·rintro i v T' σ H' hv ⟨⟨u,u2,rfl⟩,s1,zC⟩ hT;have hi:i<m:=by have:=(ZX hv).1;lia
   rw[de hi]at hv;cases hv;have s2:av H (upd H' T' (.tup [.int i,bB (f1 i)])):=s1.trans (UO hT);have xr:=av.upd (o:= .tup [.int i,bB (f1 i)]) hT _ _ zC;refine⟨T',_,rfl, .of ae,rfl,_,_,rfl,_,_,rfl,rfl,?_⟩;generalize upd H' T' (.tup [.int i,bB (f1 i)])=H2 at s2 xr;have X0:so (c7 (m+1) g) ((i:Int)+1)=some (bB (g (i+1))):=by
    have:((i:Int)+1)=((i+1:Nat):Int):=by lia
    rw[this];exact ar (de D9)
   have at2:so (c7 (i+1) (rP f1 g o p)) (i:Int)=some (bB (rP f1 g o p i)):=ar (de D9);refine⟨_,rfl, .inl ⟨rfl,_, .of xr⟩,_,rfl,_,rfl,_,rfl,_,_,rfl,rfl,a,_,_,_,rfl,rfl, .of (s2 _ _ ha),X0,_,rfl,x,az,dx,_,_,rfl,s2 _ _ hx,Rc.cl,Rc.out,Jk o p te tb,g (i+1),o,rfl,_,rfl,_,rfl,r,_,_,_,rfl,rfl, .of xr,at2,_,rfl,x,az,dx,_,_,rfl,s2 _ _ hx,Rc.cl,Rc.into,EM o p te tb,rP f1 g o p i,p,rfl,aD Mi,fun L hL=>⟨L,[f1 i,bA (g (i+1)) o,bA (rP f1 g o p i) p],rfl,ae,IM,fun H3 s3=>?_⟩⟩;have s4:=(av.upd (o:= .lst [bB (f1 i),bB (bA (g (i+1)) o),bB (bA (rP f1 g o p i) p)]) hL).trans s3;exact⟨r,_,_,rfl,rfl,s4 _ _ xr,a_ (by rw[c_];lia),⟨_,_,rfl⟩,(s2.trans s4).eR Gz,by rw[ae,qw (i+1)];rfl⟩
  ·rintro σ H' ⟨⟨u,v,rfl⟩,s1,zC⟩;rw[hl]at zC;exact⟨_,rfl,q H' r s1 Gz zC⟩
variable(d7:bM P w K mg base true 1 "begun_or_gone_on" ["worth","brought"] Ae)
variable(cB:eE P w K mg base true 2 az "brought_behind" ["self","ended","above"] (qx az))
theorem cP:aL ["self","worths","terms","width","row","above","ended"] ["self","worths","terms"] (au eK):=⟨rfl,rfl,rfl,by decide+kernel,rfl,by decide+kernel,by decide+kernel⟩
include T Tc Rc d7 cB in
theorem nQ{f:Addr}{fd:FuncData}(F:iu K "__init__" "Trails.__init__" eK f fd):aZ P w K mg base (dz P w) true 4 f fd ["self","worths","terms"] (qE az aU):=by
 refine F.gH cP Wa (fun bV A outer s H vs Q E hr h hX=>?_)
 ·obtain⟨x,dx,w,t,c,as,f,n,m,rfl,_⟩:=h;rfl
 ·obtain⟨x,dx,w,t,c,as,f1,n,m,rfl,hx,EJ,hw,TA,TF,hn,hm,q⟩:=h;obtain⟨nu,dt,l,d,vs,T1,e1,e2,e3,e4⟩:=TF;have S8:w≠x:=Ι hw hx;have QE:t≠x:=fun z=>by
   have h1:=T1.ob;rw[z,hx]at h1;have h2:=congrArg (fun o=>match o with|some (HO.ins _ _ fs)=>fs.length| _=>0) h1;simp[wK]at h2
  refine⟨_,(UN (Zg K V7 (Zx K W4)) (UN (Zg K V7 (Zx K W4)) (UN (ZS (3) cP.nd (@ow _ _ _ _ _ _ _ _ (Y7 rl (ZW (aJ K) (ZU Rl)) ai) (ZW (aJ K) (ZU (Z0 Rl ai))) ai)) (UN (Zg K V7 (ZC af)) (UN (Zg K V7 (ZC (ZU (Z2 KJ (ZC (ZU jL)) (Z2 bC W5 ai))))) (Lw (Z5 (ZH K Rl) (ZT (4) cP.nd) (UN (δ (5) cP.nd (Or.inr rfl) (Ξ (@mP _ _ _ _ _ _ jM ai))) (UN (@oJ _ _ _ _ _ _ _ _ _ _ _ _ _ _ _ (6) _ _ (by exact rfl) cP.nd ZE (by exact rfl) (show bh ["self","worths","terms","width","row","above","ended"] (au eK) _ ["j","worth"] [5] ["above"]from⟨rfl,by decide+kernel,by decide+kernel,by decide+kernel,rfl,rfl,by decide+kernel,by decide+kernel,by decide+kernel⟩) (@oO _ K _ _ _ _ _ _ _ (by exact rfl) T.jq (ZU Xr) (XR) (XR)) (fun _ _ _ _ _=>(Β K (2) (ZG (ZT (0) (show(["j","worth","above"]:List Str).Nodup by decide+kernel)) (ZG (ZT (1) (show(["j","worth","above"]:List Str).Nodup by decide+kernel)) fF)))) (fun _ _ _ _ _=>f7) (fun _ _ _ _ _=>(ZV d7 aR (Z1 Rl (ZU (Z0 W4 (pv 0)))))) (XR) (by intro _;rfl)) (UN (Y_ (ZZ K bR (ZY K) (ZU (pv 6)))) (Lw (Y_ (ZZ K bR (ZY K) (ZU (Ζ V7 cB aR (Z1 (pv 6) (ZU (pv 5)))))))))))))))))),?_⟩;refine⟨fun σ H1=>σ=[sR x,sR w,sR t,none,none,none,none]∧H1=upd H x (.ins az dx (bp "out" (.int c.out) [])),?_,?_⟩
  ·refine⟨_,rfl,t,aU,dt,_,_,rfl,T1.ob,Tc.cl,Tc.out,l_out nu l d,_,rfl,x,az,dx,_,rfl,hx,Rc.cl,Rc.out,Nn,rfl,?_⟩;rw[e2]
  rintro σ H1 ⟨rfl,rfl⟩;refine⟨fun σ H1=>σ=[sR x,sR w,sR t,none,none,none,none]∧H1=upd H x (.ins az dx ζ),?_,?_⟩
  ·refine⟨_,rfl,t,aU,dt,_,_,rfl,by rw[aj QE];exact T1.ob,Tc.cl,Tc.into,K3 nu l d,_,rfl,x,az,dx,_,rfl,ae,Rc.cl,Rc.into,?_,rfl,?_⟩
   ·have:=aW "out" (.int c.out) [];simp at this
    lia
   ·rw[fZ,e3]
  rintro σ H1 ⟨rfl,rfl⟩;refine⟨fun σ H1=>∃wd:Int,σ=[sR x,sR w,sR t,sI wd,none,none,none]∧H1=upd H x (.ins az dx ζ)∧(0<n→wd=(m:Int))∧0≤wd∧wd≤1000,?_,?_⟩
  ·have rV:upd H x (.ins az dx ζ) w=some (.lst (as.map V.ref)):=by rw[aj S8];exact hw
   have BN:=TA.len;refine⟨_,rfl,w,_,rfl, .inl (.of rV),_,_,rfl,rfl,_,rfl,?_⟩;refine ba (fun hh=>?_) (fun hh=>?_)
   ·have hh:0<n:=by
     have:(0:Int)<((as.map V.ref).length:Int):=by simpa using hh
     rw[List.length_map]at this
     lia
    obtain⟨a,Ak,Mz,Vg⟩:=TA.at hh;have O2:a≠x:=Ι Vg hx;have X1:upd H x (.ins az dx ζ) a=some (.lst (c7 m (f1 0))):=by rw[aj O2];exact Vg
    refine⟨_,rfl,w,_,0,_,rfl,rfl, .of rV,ar (j:=0) Mz,a,_,rfl, .inl (.of X1),_,rfl,rfl,fun _=>by rw[c_],by rw[c_];lia,by rw[c_];lia⟩
   ·have hh:n=0:=by
     have:¬(0:Int)<((as.map V.ref).length:Int):=by simpa using hh
     rw[List.length_map]at this
     lia
    exact⟨_,rfl,rfl,fun z=>by lia,by lia,by lia⟩
  rintro σ H1 ⟨wd,rfl,rfl,X2,abS,abV⟩;refine⟨fun σ H1=>∃e,σ=[sR x,sR w,sR t,sI wd,none,none,none]∧H1 x=some (.ins az dx (bp "ending" (.ref e) (bp "into" (.int c.into) (bp "out" (.int c.out) []))))∧SameBut x H H1∧H e=none∧H1 e=some (.lst []),?_,?_⟩
  ·refine⟨aD Mi,fun e he=>?_⟩;have yf:SameBut x H (upd H x (.ins az dx ζ)):=SameBut.refl.upd;have Vh:x≠e:=aC ae he;have JE:=yf.free ae he;refine⟨_,rfl,x,az,dx,_,rfl,by rw[aj Vh,ae],Rc.cl,Rc.kE,?_,e,rfl,ae,(yf.laid JE).upd,JE,by rw[aj (WR Vh),ae]⟩;have a1:=aW "into" (.int c.into) (bp "out" (.int c.out) []);have a2:=aW "out" (.int c.out) [];simp at a2
   lia
  rintro σ H1 ⟨e,rfl,lp,yf,JE,AJ⟩;refine⟨fun σ H2=>∃b ab,σ=[sR x,sR w,sR t,sI wd,none,none,none]∧H2 x=some (.ins az dx (gI c.out c.into e b))∧SameBut x H H2∧H2 e=some (.lst [])∧H b=none∧e≠b∧H2 b=some (.lst [.ref ab])∧(0<n→H2 ab=some (.lst (c7 (m+1) (Bq f1 c.out c.into 0))))∧ab≠e∧ab≠b∧H ab=none,?_,?_⟩
  ·refine⟨aD Mi,fun l1 lb=>⟨_,rfl,_,_,rfl,rfl,l1,_,_,rfl,rfl,ae,by lia,by lia,aD Zc,fun ab Fs=>⟨aD Mi,fun b hb=>?_⟩⟩⟩;have s1:av H1 (upd (upd (upd H1 l1 (.lst [.cJ])) ab (.lst (List.replicate (wd+1).toNat [V.cJ]).flatten)) b (.lst [.ref ab])):=((UO lb).trans (UO Fs)).trans (UO hb);have jT:H1 b=none:=((UO lb).trans (UO Fs)).free hb;have yg:=s1 _ _ lp;have X3:x≠b:=aC lp jT;have JF:ab≠b:=aC ae hb;refine⟨_,rfl,x,az,dx,_,rfl,yg,Rc.cl,Rc.jt,?_,b,ab,rfl,by rw[ae,Oh],(yf.same s1).upd,?_,yf.free lp jT,aC AJ jT,?_,fun h0=>?_,?_,JF,yf.free lp ((UO lb).free Fs)⟩
   ·have a0:=aW "ending" (.ref e) (bp "into" (.int c.into) (bp "out" (.int c.out) []));have a1:=aW "into" (.int c.into) (bp "out" (.int c.out) []);have a2:=aW "out" (.int c.out) [];simp at a2
    lia
   ·have:e≠x:=i5 AJ lp (by intro z;cases z);rw[aj this];exact s1 _ _ AJ
   ·rw[aj (WR X3),ae]
   ·have Vi:ab≠x:=fun z=>by rw[z]at Fs;rw[(UO lb) _ _ lp]at Fs;cases Fs
    rw[aj Vi,aj JF,ae,X2 h0]
    congr 1
    have:((m:Int)+1).toNat=m+1:=by lia
    rw[this]
    congr 1
    apply List.ext_getElem?;intro k;by_cases hk:k<m+1
    ·rw[de hk,iJ];simp[bB,hk]
    ·rw[uW Zc,uW (by rw[c_];lia)]
   ·exact WR (aC ((UO lb) _ _ AJ) Fs)
  clear lp yf AJ H1;rintro σ H1 ⟨b,ab,rfl,lp,yf,AJ,Vj,Vk,jT,Ij,O3,JF,DH⟩;refine⟨_,rfl,w,rfl,⟨_, .of (yf _ _ S8 hw)⟩,?_⟩;refine bW (xs:=as.map V.ref) (fun i σ H'=>(∃u1 u2 u3,σ=[sR x,sR w,sR t,sI wd,u1,u2,u3])∧H' x=some (.ins az dx (gI c.out c.into e b))∧SameBut x H H'∧∃(es:List Addr)(bs:List V)(ab:Addr),H' e=some (.lst (es.map V.ref))∧i_ H' es (dD f1 c.out c.into) i m∧(∀a∈es,H a=none∧a≠e∧a≠b∧a≠x)∧H' b=some (.lst (bs++[.ref ab]))∧bs.length=i∧(0<n→H' ab=some (.lst (c7 (m+1) (Bq f1 c.out c.into i))))∧ab≠e∧ab≠b∧H ab=none∧∃bz:List Addr,bs=bz.map V.ref∧∀k a,bz[k]?=some a→H' a=some (.lst (c7 (m+1) (Bq f1 c.out c.into k)))∧a≠e∧a≠b∧H a=none) ?_ ?_ ?_ ?_
  ·exact⟨⟨_,_,_,rfl⟩,lp,yf,[],[],ab,AJ,⟨rfl,fun i a h=>by simp at h⟩,(fun a h=>by cases h),jT,rfl,Ij,O3,JF,DH,[],rfl,fun k a h=>by simp at h⟩
  ·rintro i σ H' _ ⟨_,_,sb,_⟩;exact .of (sb _ _ S8 hw)
  ·clear lp yf AJ jT Ij O3 JF DH ab H1;rintro i v σ H' hv ⟨⟨u1,u2,u3,rfl⟩,lp,yf,es,bs,ab,AJ,TE,O4,jT,Ik,Ij,O3,JF,DH,bz,O5,BZ⟩;have BN:=TA.len;have hi:i<n:=by have:=(ZX hv).1;rw[List.length_map]at this;lia
   obtain⟨ra,Gz,zC,xr⟩:=TA.at hi;rw[zC]at hv;cases hv;have X4:ra≠x:=Ι xr hx;have QG:=yf _ _ X4 xr;have Dg:=Ij D9;refine⟨fun σ H2=>σ=[sR x,sR w,sR t,sI wd,sR ra,sR ab,u3]∧H2=H',?_,?_⟩
   ·exact⟨_,rfl,x,az,dx,_,_,rfl,lp,Rc.cl,Rc.jt,gO c.out c.into e b,_,rfl,b,_,_,_,rfl,rfl, .of jT,yw _ _,rfl,rfl⟩
   rintro σ H' ⟨rfl,rfl⟩;refine⟨fun σ H2=>∃D,σ=[sR x,sR w,sR t,sI wd,sR ra,sR ab,sR D]∧av H' H2∧H' D=none∧H2 D=some (.lst (c7 m (dD f1 c.out c.into i))),?_,?_⟩
   ·refine⟨_,rfl,ra,rfl,⟨_, .of QG⟩,fun D hD=>?_⟩;refine vN (xs:=c7 m (f1 i)) (fun j ys bx H2=>(∃w1 w2,bx=[w1,w2,sR ab])∧ys=c7 j (dD f1 c.out c.into i)∧H2 D=some (.lst ys)∧av H' H2) ⟨⟨_,_,rfl⟩,rfl,ae,UO hD⟩ ?_ ?_ ?_
    ·rintro j ys bx H2 _ ⟨_,_,_,s2⟩;exact .of (s2 _ _ QG)
    ·rintro j y T2 ys bx H2 hy ⟨⟨w1,w2,rfl⟩,rfl,la,s2⟩ O6;have hj:j<m:=by have:=(ZX hy).1;rw[c_]at this;exact this
     rw[de hj]at hy;cases hy;have s3:av H' (upd H2 T2 (.tup [.int j,bB (f1 i j)])):=s2.trans (UO O6);have Df:=av.upd (o:= .tup [.int j,bB (f1 i j)]) O6 _ _ la;refine⟨T2,_,rfl, .of ae,rfl,_,_,rfl,_,_,rfl,rfl,?_⟩;refine sr ?_;refine⟨_,rfl,_,rfl,_,rfl,ab,_,_,_,rfl,rfl, .of (s3 _ _ Dg),ar (de D9),f1 i j,Bq f1 c.out c.into i j,rfl,Df,a_ (by rw[c_];lia),⟨_,_,rfl⟩,by rw[qw];rfl,ae,s3.eR hD⟩
    ·rintro ys bx H2 ⟨_,rfl,la,s2⟩;rw[c_]at la;exact⟨D,rfl,s2,hD,la⟩
   rintro σ H2 ⟨D,rfl,s2,MJ,la⟩;have yg:=s2 _ _ lp;have MK:=s2 _ _ AJ;have xl:=s2 _ _ jT;have S9:=s2 _ _ Dg;have X5:D≠x:=WR (aC lp MJ);have Vl:D≠e:=WR (aC AJ MJ);have Vm:D≠b:=WR (aC jT MJ);have X6:e≠x:=Ι AJ lp;have X7:b≠x:=Ι jT lp;have Vi:ab≠x:=Ι Dg lp;have Il:=TE.len;have MN:H D=none:=yf.free lp MJ;have S_:=yf.same s2;refine⟨fun σ H3=>σ=[sR x,sR w,sR t,sI wd,sR ra,sR ab,sR D]∧H3=upd H2 e (.lst (es.map V.ref++[.ref D])),?_,?_⟩
   ·exact⟨_,rfl,x,az,dx,_,_,rfl,yg,Rc.cl,Rc.kE,ie c.out c.into e b, .inl ⟨rfl,_, .of MK⟩,_,rfl,e,_,_,rfl,rfl,MK,a_ (by rw[List.length_map];lia),rfl,rfl⟩
   rintro σ H3 ⟨rfl,rfl⟩;have MO:upd H2 e (.lst (es.map V.ref++[.ref D])) x=some (.ins az dx (gI c.out c.into e b)):=by rw[aj (WR X6)];exact yg
   have QH:upd H2 e (.lst (es.map V.ref++[.ref D])) b=some (.lst (bs++[.ref ab])):=by rw[aj (WR Vk)];exact xl
   have L1:upd H2 e (.lst (es.map V.ref++[.ref D])) ab=some (.lst (c7 (m+1) (Bq f1 c.out c.into i))):=by rw[aj O3];exact S9
   have Df:upd H2 e (.lst (es.map V.ref++[.ref D])) D=some (.lst (c7 m (dD f1 c.out c.into i))):=by rw[aj Vl];exact la
   have GA:upd H2 e (.lst (es.map V.ref++[.ref D])) e=some (.lst (es.map V.ref++[.ref D])):=ae;have Td:SameBut x H (upd H2 e (.lst (es.map V.ref++[.ref D]))):=S_.laid JE;have Vn:∀k a,es[k]?=some a→upd H2 e (.lst (es.map V.ref++[.ref D])) a=some (.lst (c7 m (dD f1 c.out c.into k))):=fun k a hk=>by
    rw[aj (O4 a (WI hk)).2.1];exact s2 _ _ (TE.row k a hk)
   have Vo:∀k a,bz[k]?=some a→upd H2 e (.lst (es.map V.ref++[.ref D])) a=some (.lst (c7 (m+1) (Bq f1 c.out c.into k))):=fun k a hk=>by
    rw[aj (BZ k a hk).2.1];exact s2 _ _ (BZ k a hk).1
   generalize upd H2 e (.lst (es.map V.ref++[.ref D]))=H3 at MO QH L1 Df GA Td Vn Vo;refine⟨_,rfl,x,az,dx,_,_,rfl,MO,Rc.cl,Rc.jt,gO c.out c.into e b, .inl ⟨rfl,_, .of QH⟩,_,rfl,x,dx,_,rfl,MO,EN c.out c.into e b,_,rfl,_,rfl,x,D,ab,dx,e,b,c.out,c.into,m,_,_,rfl,MO,Df,L1,hm,fun H4 r s4 rD X8=>?_⟩;have Vp:r≠b:=WR (aC QH rD);have X9:r≠e:=WR (aC GA rD);refine⟨b,_,_,rfl,rfl,s4 _ _ QH,a_ (by rw[List.length_append];simp;lia),⟨_,_,_,rfl⟩,by rw[aj (WR X7)];exact s4 _ _ MO,(Td.same s4).laid Vj,es++[D],bs++[.ref ab],r,by rw[aj Vk];rw[s4 _ _ GA];simp,⟨by simp[Il],fun k a hk=>?_⟩,fun a ha=>?_,ae,by simp[Ik],fun _=>?_,X9,Vp,Td.free MO rD,bz++[ab],by simp[O5],fun k a hk=>?_⟩
   ·by_cases h:k<i
    ·rw[ZA D9]at hk;rw[aj (O4 a (WI hk)).2.2.1];exact s4 _ _ (Vn k a hk)
    ·rw[ZF D9]at hk;have xa:k-es.length=0:=by
      have:=(ZX hk).1;simp at this
      lia
     rw[xa]at hk;have:D=a:=by simpa using hk
     subst this;rw[aj Vm];have:k=i:=by lia
     rw[this];exact s4 _ _ Df
   ·rcases List.mem_append.mp ha with ha|ha
    ·exact O4 a ha
    ·have:a=D:=by simpa using ha
     rw[this];exact⟨MN,Vl,Vm,X5⟩
   ·rw[aj Vp,X8]
    congr 2
    unfold c7;apply List.map_congr_left;intro j _;rw[Br]
   ·have O7:bz.length=i:=by rw[O5,List.length_map]at Ik;exact Ik
    by_cases h:k<i
    ·rw[ZA D9]at hk;obtain⟨_,z1,z2,z3⟩:=BZ k a hk;exact⟨by rw[aj z2];exact s4 _ _ (Vo k a hk),z1,z2,z3⟩
    ·rw[ZF D9]at hk;have xa:k-bz.length=0:=by
      have:=(ZX hk).1;simp at this
      lia
     rw[xa]at hk;have:ab=a:=by simpa using hk
     subst this;have:k=i:=by lia
     subst this;exact⟨by rw[aj JF];exact s4 _ _ L1,O3,JF,DH⟩
  ·rintro σ H' ⟨⟨u1,u2,u3,rfl⟩,yg,S_,es,bs,Tf,MK,TE,O4,xl,Ik,Dg,aal,abN,Mz,bz,O5,BZ⟩;rw[List.length_map,TA.len]at TE Ik Dg;have O7:bz.length=n:=by rw[O5,List.length_map]at Ik;exact Ik
   refine q H' e b S_ yg ⟨es,MK,JE,TE,fun a ha=>(O4 a ha).1⟩ fun Tg=>⟨bz++[Tf],by rw[xl,O5];simp,Vj,⟨by simp[O7],fun k a hk=>?_⟩,fun a ha=>?_⟩
   ·by_cases h:k<n
    ·rw[ZA D9]at hk;exact(BZ k a hk).1
    ·rw[ZF D9]at hk;have xa:k-bz.length=0:=by
      have:=(ZX hk).1;simp at this
      lia
     rw[xa]at hk;have:Tf=a:=by simpa using hk
     subst this;have:k=n:=by lia
     subst this;exact Dg Tg
   ·rcases List.mem_append.mp ha with ha|ha
    ·obtain⟨k,hk,rfl⟩:=List.mem_iff_getElem.mp ha;exact(BZ k _ (by simp[hk])).2.2.2
    ·have:a=Tf:=by simpa using ha
     rw[this];exact Mz
theorem jy:aL ["self","pair","brought"] ["self","pair"] (au gQ):=⟨rfl,rfl,rfl,by decide+kernel,rfl,by decide+kernel,by decide+kernel⟩
include T Rc in
theorem o_{f:Addr}{fd:FuncData}(F:iu K "goes_on" "Trails.goes_on" gQ f fd):aZ P w K mg base (dz P w) true 1 f fd ["self","pair"] (xc az):=by
 refine F.gH jy Wa (fun bV A outer s H vs Q E hr h hX=>?_)
 ·obtain⟨x,dx,e,b,es,bs,f,o,p,n,m,pr,i,j,rfl,_⟩:=h;rfl
 ·obtain⟨x,dx,e,b,es,bs,f1,o,p,n,m,pr,i,j,rfl,TR,BX,hi,hj,q⟩:=h;refine⟨_,(OA (ZS (2) jy.nd (Z0 (Ξ (ZK (bH K) (pv 1) ai)) (ZK (bH K) (pv 1) ai))) (Lw (X' (@we _ _ _ _ _ _ _ (@zG _ _ _ _ _ _ (@ot _ _ _ _ _ (pv 2)) (by first|exact bj _ (Nn) (Nn)|rfl)) (@wc _ _ _ _ _ (@iH _ _ _ _ _ _ _ _ A8 W4 ai (aV _))))))),?_⟩;obtain⟨ra,h1,h2,h3⟩:=TR.tb.at (show i<n+1 by lia);refine⟨_,rfl,x,az,dx,_,_,rfl,TR.ob,Rc.cl,Rc.jt,gO o p e b,_,rfl,pr,_,_,_,rfl,rfl, .of BX,R6 (j:=0),b,_,_,_,rfl,rfl, .of TR.hb,ar h2,_,rfl,pr,_,_,_,rfl,rfl, .of BX,R6 (j:=1),ra,_,_,_,rfl,rfl, .of h3,ar (de (show j<m+1 by lia)),?_⟩;refine⟨_,rfl,?_⟩;cases eB:Bq f1 o p i j with
  |none=>
   rw[eB]at q;exact⟨_,rfl,ba Τ fun _=>q⟩
  |some v=>
   rw[eB]at q;exact⟨_,rfl,ba (fun _=>⟨_,rfl,_,_,rfl,rfl,q⟩) fun hh=>V' (by simp[bB]) hh⟩
theorem ke:aL ["self","crossing","pair"] ["self","crossing","pair"] (au dZ):=⟨rfl,rfl,rfl,by decide+kernel,rfl,by decide+kernel,by decide+kernel⟩
include T Rc in
theorem kf{f:Addr}{fd:FuncData}(F:iu K "is_brought_by" "Trails.is_brought_by" dZ f fd):aZ P w K mg base (dz P w) true 1 f fd ["self","crossing","pair"] (Ap az):=by
 refine F.gH ke Wa (fun bV A outer s H vs Q E hr h hX=>?_)
 ·obtain⟨x,dx,e,b,es,bs,f,o,p,n,m,cr,pr,i,j,k,l,rfl,_⟩:=h;rfl
 ·obtain⟨x,dx,e,b,es,bs,f1,o,p,n,m,cr,pr,i,j,k,l,rfl,TR,JG,BX,hi,hj,hk,hl,q⟩:=h;refine⟨_,(Lw (X' (@iH _ _ _ _ _ _ _ _ jn (Z0 (Ξ (ZK (bH K) (pv 2) ai)) (ZK (bH K) (pv 2) ai)) (Z0 (Ξ (ZK (bH K) (pv 1) ai)) (ZK (bH K) (pv 1) ai)) (aV _)))),?_⟩;obtain⟨ra,h1,h2,h3⟩:=TR.tb.at (show i<n+1 by lia);obtain⟨rb,g1,g2,g3⟩:=TR.te.at hk;refine⟨_,rfl,x,az,dx,_,_,rfl,TR.ob,Rc.cl,Rc.kE,ie o p e b,_,rfl,pr,_,_,_,rfl,rfl, .of BX,R6 (j:=0),e,_,_,_,rfl,rfl, .of TR.he,ar g2,_,rfl,pr,_,_,_,rfl,rfl, .of BX,R6 (j:=1),rb,_,_,_,rfl,rfl, .of g3,ar (de hl),?_⟩;refine⟨_,rfl,x,az,dx,_,_,rfl,TR.ob,Rc.cl,Rc.jt,gO o p e b,_,rfl,cr,_,_,_,rfl,rfl, .of JG,R6 (j:=0),b,_,_,_,rfl,rfl, .of TR.hb,ar h2,_,rfl,cr,_,_,_,rfl,rfl, .of JG,R6 (j:=1),ra,_,_,_,rfl,rfl, .of h3,ar (de (show j<m+1 by lia)),?_⟩;have JH:∀a c:Option Int,decide (bB a=bB c)=decide (a=c):=fun a c=>by cases a<;>cases c<;>simp[bB]
  refine⟨by cases dD f1 o p k l<;>cases Bq f1 o p i j<;>rfl,?_⟩;rw[JH];exact q
theorem bo:aL ["self","crossing","i","j","brought","found"] ["self","crossing"] (au cT):=⟨rfl,rfl,rfl,by decide+kernel,rfl,by decide+kernel,by decide+kernel⟩
include T kP Rc in
theorem jf{f:Addr}{fd:FuncData}(F:iu K "crossings_before" "Trails.crossings_before" cT f fd):aZ P w K mg base (dz P w) true 2 f fd ["self","crossing"] (tM az):=by
 refine F.gH bo Wa (fun bV A outer s H vs Q E hr h hX=>?_)
 ·obtain⟨x,dx,e,b,es,bs,f,o,p,n,m,cr,i,j,rfl,_⟩:=h;rfl
 ·obtain⟨x,dx,e,b,es,bs,f1,o,p,n,m,cr,i,j,rfl,TR,JG,hi,hj,q⟩:=h;refine⟨_,(UN (ZS (2) bo.nd (ZK (bH K) (pv 1) ai)) (UN (ZS (3) bo.nd (ZK (bH K) (pv 1) ai)) (UN (ZS (4) bo.nd (Z0 (Ξ W4) (pv 3))) (UN (ZS (5) bo.nd (ZC af)) (UN (Yh (Y7 jn (ZV kP aR (μ (Z0 (Ξ (Z2 bI W4 ai)) (pv 3)))) (pv 4)) (Lw (Y_ (ZZ K bR (pv 5) (ZU (Zm (zr (Z2 bI W4 ai))))))) aQ) (UN (Yh (Y7 jn (ZV kP aR (μ (Z0 (Ξ W4) (Z2 bI W5 ai)))) (pv 4)) (Lw (Y_ (ZZ K bR (pv 5) (ZU (Zm (Z1 W4 (ZU (Z2 bI W5 ai)))))))) aQ) (Lw (X' (pv 5))))))))),?_⟩;have JH:∀a c:Option Int,decide (bB a=bB c)=decide (a=c):=fun a c=>by cases a<;>cases c<;>simp[bB]
  obtain⟨ra,h1,h2,h3⟩:=TR.tb.at (show i<n+1 by lia);obtain⟨rb,g1,g2,g3⟩:=TR.tb.at (show i+1<n+1 by lia);refine⟨fun σ H1=>σ=[sR x,sR cr,sI (((i+1:Nat):Int)),none,none,none]∧H1=H,⟨_,rfl,cr,_,_,_,rfl,rfl, .of JG,R6 (j:=0),rfl,rfl⟩,?_⟩;rintro σ H ⟨rfl,rfl⟩;refine⟨fun σ H1=>σ=[sR x,sR cr,sI (((i+1:Nat):Int)),sI (((j+1:Nat):Int)),none,none]∧H1=H,⟨_,rfl,cr,_,_,_,rfl,rfl, .of JG,R6 (j:=1),rfl,rfl⟩,?_⟩;rintro σ H ⟨rfl,rfl⟩;refine⟨fun σ H1=>σ=[sR x,sR cr,sI (((i+1:Nat):Int)),sI (((j+1:Nat):Int)),some (bB (Bq f1 o p (i+1) (j+1))),none]∧H1=H,⟨_,rfl,x,az,dx,_,_,rfl,TR.ob,Rc.cl,Rc.jt,gO o p e b,_,rfl,b,_,_,_,rfl,rfl, .of TR.hb,ar g2,_,rfl,rb,_,_,_,rfl,rfl, .of g3,ar (de (show j+1<m+1 by lia)),rfl,rfl⟩,?_⟩;rintro σ H ⟨rfl,rfl⟩;refine⟨fun σ H1=>∃r,σ=[sR x,sR cr,sI (((i+1:Nat):Int)),sI (((j+1:Nat):Int)),some (bB (Bq f1 o p (i+1) (j+1))),sR r]∧av H H1∧H r=none∧H1 r=some (.lst []),⟨aD Mi,fun r hr=>⟨r,rfl,UO hr,hr,ae⟩⟩,?_⟩;rintro σ H1 ⟨r,rfl,s1,rD,Gz⟩;refine⟨fun σ H2=>∃us,σ=[sR x,sR cr,sI (((i+1:Nat):Int)),sI (((j+1:Nat):Int)),some (bB (Bq f1 o p (i+1) (j+1))),sR r]∧av H H2∧H2 r=some (.lst us)∧fK H2 us (if bA (Bq f1 o p i (j+1)) o=Bq f1 o p (i+1) (j+1)then[((i:Int),((j+1:Nat):Int))]else[]),?_,?_⟩
  ·have T1:=TR.keep s1;have ea:so (bs.map V.ref) (((i+1:Nat):Int)-1)=some (.ref ra):=by
    rw[show((i+1:Nat):Int)-1=(i:Int) by lia];exact ar h2
   refine⟨_,rfl,x,az,dx,_,_,rfl,T1.ob,Rc.cl,Rc.jt,gO o p e b,_,rfl,_,_,rfl,rfl,b,_,_,_,rfl,rfl, .of T1.hb,ea,_,rfl,ra,_,_,_,rfl,rfl, .of (s1 _ _ h3),ar (de (show j+1<m+1 by lia)),?_⟩;refine⟨_,rfl,x,az,dx,_,_,rfl,T1.ob,Rc.cl,Rc.out,Jk o p e b,Bq f1 o p i (j+1),o,rfl,?_⟩;refine⟨_,rfl,by cases bA (Bq f1 o p i (j+1)) o<;>cases Bq f1 o p (i+1) (j+1)<;>rfl,_,rfl,?_⟩;rw[JH];refine ba (fun hh=>?_) (fun hh=>?_)
   ·have hh:bA (Bq f1 o p i (j+1)) o=Bq f1 o p (i+1) (j+1):=of_decide_eq_true hh;rw[HB hh];refine⟨_,rfl, .inl ⟨rfl,_, .of Gz⟩,_,rfl,_,_,rfl,rfl,_,rfl,aD Mi,fun t ht=>?_⟩;refine⟨r,_,_,rfl,rfl,av.upd ht _ _ Gz,a_ Mi,_,rfl,(s1.trans (UO ht)).eR rD,ae,rfl,fun k f hf=>?_⟩;have hk:k=0:=by
     have:=(ZX hf).1;simp at this
     lia
    subst hk;have hf:((i:Int),((j+1:Nat):Int))=f:=by simpa using hf
    subst hf;refine⟨t,rfl,?_⟩;rw[aj (fun z=>by subst z;rw[Gz]at ht;cases ht),ae];rw[show((i+1:Nat):Int)-1=(i:Int) by lia];rfl
   ·have hh:¬bA (Bq f1 o p i (j+1)) o=Bq f1 o p (i+1) (j+1):=by simpa using hh
    rw[Dt hh];exact⟨[],rfl,s1,Gz, .nil⟩
  rintro σ H2 ⟨us,rfl,s2,zC,P2⟩;have T2:=TR.keep s2;have aad:us.length≤1:=by
   rw[P2.1];split<;>simp
  have eb:so (c7 (m+1) (Bq f1 o p (i+1))) (((j+1:Nat):Int)-1)=some (bB (Bq f1 o p (i+1) j)):=by
   rw[show((j+1:Nat):Int)-1=(j:Int) by lia];exact ar (de (show j<m+1 by lia))
  refine⟨fun σ H3=>∃us,σ=[sR x,sR cr,sI (((i+1:Nat):Int)),sI (((j+1:Nat):Int)),some (bB (Bq f1 o p (i+1) (j+1))),sR r]∧av H H3∧H3 r=some (.lst us)∧fK H3 us (bq f1 o p i j),?_,?_⟩
  ·refine⟨_,rfl,x,az,dx,_,_,rfl,T2.ob,Rc.cl,Rc.jt,gO o p e b,_,rfl,b,_,_,_,rfl,rfl, .of T2.hb,ar g2,_,rfl,_,_,rfl,rfl,rb,_,_,_,rfl,rfl, .of (s2 _ _ g3),eb,?_⟩;refine⟨_,rfl,x,az,dx,_,_,rfl,T2.ob,Rc.cl,Rc.into,EM o p e b,Bq f1 o p (i+1) j,p,rfl,?_⟩;refine⟨_,rfl,by cases bA (Bq f1 o p (i+1) j) p<;>cases Bq f1 o p (i+1) (j+1)<;>rfl,_,rfl,?_⟩;rw[JH];refine ba (fun hh=>?_) (fun hh=>?_)
   ·have hh:bA (Bq f1 o p (i+1) j) p=Bq f1 o p (i+1) (j+1):=of_decide_eq_true hh;refine⟨_,rfl, .inl ⟨rfl,_, .of zC⟩,_,rfl,_,rfl,_,_,rfl,rfl,aD Mi,fun t ht=>?_⟩;have s3:=av.upd (o:= .tup [.int ((i+1:Nat):Int), .int (((j+1:Nat):Int)-1)]) ht;have Vq:t≠r:=fun z=>by subst z;rw[zC]at ht;cases ht
    refine⟨r,_,_,rfl,rfl,s3 _ _ zC,a_ D9,_,rfl,(s2.trans s3).eR rD,ae,?_⟩;unfold bq;rw[HB hh];refine((P2.same s3).append ⟨rfl,fun k f hf=>?_⟩).cA fun a ys ha=>?_
    ·have hk:k=0:=by
      have:=(ZX hf).1;simp at this
      lia
     subst hk;have hf:(((i+1:Nat):Int),(j:Int))=f:=by simpa using hf
     subst hf;refine⟨t,rfl,?_⟩;rw[ae,show((j+1:Nat):Int)-1=(j:Int) by lia];rfl
    ·have cG:a≠r:=fun z=>by subst z;rw[s3 _ _ zC]at ha;cases ha
     rw[aj cG];exact ha
   ·have hh:¬bA (Bq f1 o p (i+1) j) p=Bq f1 o p (i+1) (j+1):=by simpa using hh
    refine⟨us,rfl,s2,zC,?_⟩;unfold bq;rw[Dt hh,List.append_nil];exact P2
  rintro σ H3 ⟨us,rfl,s3,xr,P3⟩;exact⟨_,rfl,q H3 r us s3 rD xr P3⟩
variable(bg:eE P w K mg base true 1 az "is_brought_by" ["self","crossing","pair"] (Ap az))
variable(aX:eE P w K mg base true 2 az "crossings_before" ["self","crossing"] (tM az))
theorem bX:aL ["self","pair","crossing","ahead"] ["self","pair"] (au e6):=⟨rfl,rfl,rfl,by decide+kernel,rfl,by decide+kernel,by decide+kernel⟩
include T Rc bg aX in
theorem lq{f:Addr}{fd:FuncData}(F:iu K "pair_before" "Trails.pair_before" e6 f fd):aZ P w K mg base (dz P w) true 3 f fd ["self","pair"] (xf az):=by
 refine F.gH bX Wa (fun bV A outer s H vs Q E hr h hX=>?_)
 ·obtain⟨x,dx,e,b,es,bs,f,o,p,n,m,pr,i,j,rfl,_⟩:=h;rfl
 ·obtain⟨x,dx,e,b,es,bs,f1,o,p,n,m,pr,i,j,rfl,TR,BX,hi,hj,hB,q⟩:=h;refine⟨_,(OA (ZS (2) bX.nd Rl) (OA (ZS (3) bX.nd (Zm (Z1 (Z2 bI (ZK (bH K) (pv 2) ai) ai) (ZU (Z2 bI (ZK (bH K) (pv 2) ai) ai))))) (OA (@sP _ _ _ _ _ _ hX.own (@dH _ _ _ _ (ZR (Ζ V7 bg aR (zr W4)))) (OA (ZS (2) bX.nd (Z0 (Ζ V7 aX aR (ZU W4)) ai)) (Lw (ZS (3) bX.nd (Zm (Z1 (Z2 bI (ZK (bH K) (pv 2) ai) ai) (ZU (Z2 bI (ZK (bH K) (pv 2) ai) ai)))))))) (Lw (X' W5))))),?_⟩;obtain⟨i,rfl⟩:∃i',i=i'+1:=by
   cases i with
   |zero=>exact V' (iJ f1 o p j) hB
   |succ i=>exact⟨i,rfl⟩
  obtain⟨j,rfl⟩:∃j',j=j'+1:=by
   cases j with
   |zero=>exact V' (by unfold Bq;rfl) hB
   |succ j=>exact⟨j,rfl⟩
  refine⟨_,rfl,_,rfl,pr,_,_,_,rfl,rfl, .of BX,R6 (j:=0),_,_,rfl,rfl,_,rfl,pr,_,_,_,rfl,rfl, .of BX,R6 (j:=1),_,_,rfl,rfl,aD Mi,fun t ht=>?_⟩;refine⟨fun mm σ H1=>∃(cr ah:Addr)(i2 j2:Nat),mm=i2+j2∧σ=[sR x,sR pr,sR cr,sR ah]∧av H H1∧H1 cr=some (.tup [.int ((i2+1:Nat):Int), .int ((j2+1:Nat):Int)])∧H1 ah=some (.tup [.int i2, .int j2])∧i2<n∧j2<m∧Bq f1 o p (i2+1) (j2+1)≠none∧cK f1 o p (i2+1) (j2+1)=cK f1 o p (i+1) (j+1),⟨i+j,pr,t,i,j,rfl,rfl,UO ht,av.upd ht _ _ BX,?_,by lia,by lia,hB,rfl⟩,?_⟩
  ·rw[ae,show((i+1:Nat):Int)-1=(i:Int) by lia,show((j+1:Nat):Int)-1=(j:Int) by lia]
  rintro mm σ H1 ⟨cr,ah,i2,j2,rfl,rfl,s1,JG,Vr,zx,Th,MP,Vs⟩;have T1:=TR.keep s1;refine⟨_,rfl,x,dx,_,rfl,T1.ob,Jt o p e b,_,rfl,_,rfl,x,dx,e,b,es,bs,f1,o,p,n,m,cr,ah,i2+1,j2+1,i2,j2,rfl,T1,JG,Vr,by lia,by lia,zx,Th,?_⟩;refine⟨_,rfl,?_⟩;by_cases hE:dD f1 o p i2 j2=Bq f1 o p (i2+1) (j2+1)
  ·rw[Zn hE];refine gM ?_;refine⟨_,rfl,q H1 ah s1 ?_⟩;have:cK f1 o p (i2+1) (j2+1)=(i2,j2):=by unfold cK;rw[HB hE]
   rw[←Vs,this];exact Vr
  ·rw[Zs hE];refine jO ?_;refine⟨_,fun bx H' z=>z,?_⟩;obtain⟨i3,j3,c0,c1,c2,c3,c4,c5⟩:=yW MP hE;refine⟨_,rfl,x,dx,_,rfl,T1.ob,BH o p e b,_,rfl,x,dx,e,b,es,bs,f1,o,p,n,m,cr,i2,j2,rfl,T1,JG,zx,Th,fun H2 r us s2 rD zC P2=>?_⟩;obtain⟨t2,k1,k2⟩:=P2.2 0 _ c0;refine⟨r,_,_,_,rfl,rfl, .of zC,ar (j:=0) k1,?_⟩;refine⟨_,rfl,t2,_,_,_,rfl,rfl, .of k2,R6 (j:=0),_,_,rfl,rfl,_,rfl,t2,_,_,_,rfl,rfl, .of k2,R6 (j:=1),_,_,rfl,rfl,aD Mi,fun t3 Vt=>?_⟩;refine⟨i3+j3,by lia,t2,t3,i3,j3,rfl,rfl,s1.trans (s2.trans (UO Vt)),av.upd Vt _ _ k2,?_,by lia,by lia,c4,by rw[c5,Vs]⟩;rw[ae];show some (HO.tup [.int (((i3+1:Nat):Int)-1), .int (((j3+1:Nat):Int)-1)])=_;rw[show((i3+1:Nat):Int)-1=(i3:Int) by lia,show((j3+1:Nat):Int)-1=(j3:Int) by lia]
variable(b_:eE P w K mg base true 1 az "goes_on" ["self","pair"] (xc az))
variable(dj:eE P w K mg base true 3 az "pair_before" ["self","pair"] (xf az))
theorem kg:aL ["self","pair","way"] ["self","pair"] (au iB):=⟨rfl,rfl,rfl,by decide+kernel,rfl,by decide+kernel,by decide+kernel⟩
include T Rc b_ dj in
theorem qN{f:Addr}{fd:FuncData}(F:iu K "way_to" "Trails.way_to" iB f fd):aZ P w K mg base (dz P w) true 4 f fd ["self","pair"] (Aq az):=by
 refine F.gH kg Wa (fun bV A outer s H vs Q E hr h hX=>?_)
 ·obtain⟨x,dx,e,b,es,bs,f,o,p,n,m,pr,i,j,rfl,_⟩:=h;rfl
 ·obtain⟨x,dx,e,b,es,bs,f1,o,p,n,m,pr,i,j,rfl,TR,BX,hi,hj,hn,q⟩:=h;refine⟨_,(OA (ZS (2) kg.nd (ZC (ZU Rl))) (OA (@sP _ _ _ _ _ _ hX.own (ZR (Ζ V7 b_ aR (ZU (Z0 W4 (@mP _ _ _ _ _ _ jM ai))))) (Lw (Y_ (ZZ K bR W4 (ZU (Ζ V7 dj aR (ZU (Z0 W4 (@mP _ _ _ _ _ _ jM ai))))))))) (OA (Y_ (@Ht _ K _ _ _ _ _ _ _ _ PySem.F.plainAttrs_list PySem.F.slot_list_reverse PySem.F.type_list_reverse zU W4 (XR) (XR) (XR))) (Lw (X' W4))))),?_⟩;refine⟨_,rfl,aD Mi,fun w hw=>?_⟩;refine⟨fun mm σ H1=>∃(us:List V)(A:List (Nat×Nat))(i2 j2:Nat),mm=i2∧σ=[sR x,sR pr,sR w]∧av H H1∧H1 w=some (.lst us)∧fK H1 us ((A++[(i2,j2)]).map aP)∧i2<n∧j2<m∧A.length+i2≤i∧eG f1 o p i i j=eG f1 o p i2 i2 j2++A.reverse,⟨i,_,[],i,j,rfl,rfl,UO hw,ae,⟨rfl,fun k g hg=>?_⟩,hi,hj,IM,IM⟩,?_⟩
  ·have hk:k=0:=by
    have:=(ZX hg).1;simp at this
    lia
   subst hk;have hg:aP (i,j)=g:=by simpa using hg
   subst hg;exact⟨pr,rfl,av.upd hw _ _ BX⟩
  rintro i2 σ H1 ⟨us,A,_,j2,rfl,rfl,s1,rV,P1,zx,Th,hA,Im⟩;have T1:=TR.keep s1;obtain⟨t,ye,uD⟩:=P1.last Mi;rw[List.map_append,List.map_singleton,nB]at uD;have hlen:us.length≤1001:=by have:=P1.1;simp at this;lia
  refine⟨_,rfl,x,dx,_,rfl,T1.ob,Fo o p e b,_,rfl,_,rfl,w,_,_,_,rfl,rfl, .of rV,ye,x,dx,e,b,es,bs,f1,o,p,n,m,t,i2,j2,rfl,T1,uD,by lia,by lia,?_⟩;refine⟨_,rfl,?_⟩;refine ba (fun hh=>?_) (fun hh=>?_)
  ·obtain⟨c1,c2,c3⟩:=j7 hh;have hl:=(kF f1 o p i2 j2 c1 c2).resolve_right c3;refine⟨_,fun bx H' z=>z,?_⟩;refine⟨_,rfl, .inl ⟨rfl,_, .of rV⟩,_,rfl,x,dx,_,rfl,T1.ob,LL o p e b,_,rfl,_,rfl,w,_,_,_,rfl,rfl, .of rV,ye,x,dx,e,b,es,bs,f1,o,p,n,m,t,i2,j2,rfl,T1,uD,by lia,by lia,c3,fun H2 r s2 hr=>?_⟩;have aaw:r≠w:=fun z=>by subst z;rw[s2 _ _ rV]at hr;cases hr
   refine⟨w,_,_,rfl,rfl,s2 _ _ rV,a_ D9,(cK f1 o p i2 j2).1,hl.1,us++[.ref r],A++[(i2,j2)],_,(cK f1 o p i2 j2).2,rfl,rfl,(s1.trans s2).eR hw,ae,?_,by lia,by lia,by simp;lia,?_⟩
   ·rw[List.map_append];refine((P1.same s2).append ⟨rfl,fun k g hg=>?_⟩).cA fun a ys ha=>?_
    ·have hk:k=0:=by
      have:=(ZX hg).1;simp at this
      lia
     subst hk;have hg:aP ((cK f1 o p i2 j2).1,(cK f1 o p i2 j2).2)=g:=by simpa using hg
     subst hg;exact⟨r,rfl,hr⟩
    ·have cG:a≠w:=fun z=>by subst z;rw[s2 _ _ rV]at ha;cases ha
     rw[aj cG];exact ha
   ·rw[Im,vT hh];simp
  ·have hh:¬gJ (Bq f1 o p i2 j2)=true:=hh;refine⟨_,rfl, .inl ⟨rfl,_, .of rV⟩,w,us,rfl,rfl,rV,?_⟩;refine⟨_,rfl,q _ w us.reverse (s1.eR hw) hw ae ?_⟩;have e:eG f1 o p i i j=(A++[(i2,j2)]).reverse:=by
    rw[Im,gP hh];simp
   rw[e,List.map_reverse];refine⟨by rw[List.length_reverse,List.length_reverse,P1.1],fun k g hg=>?_⟩;have hk:=(ZX hg).1;rw[List.length_reverse]at hk;have hl:=P1.1;rw[List.getElem?_reverse hk]at hg;obtain⟨t3,k1,k2⟩:=P1.2 _ _ hg;refine⟨t3,by rw[List.getElem?_reverse D9,hl];exact k1,?_⟩;have cG:t3≠w:=fun z=>by subst z;rw[rV]at k2;cases k2
   rw[aj cG];exact k2
variable(Fc:Ju K aA)
theorem mI:aL ["self","worth","way","row","pairs"] ["self","worth","way","row","pairs"] (au fR):=⟨rfl,rfl,rfl,by decide+kernel,rfl,by decide+kernel,by decide+kernel⟩
include T Fc in
theorem mJ{f:Addr}{fd:FuncData}(F:iu K "__init__" "Finding.__init__" fR f fd):aZ P w K mg base (dz P w) true 1 f fd ["self","worth","way","row","pairs"] (tN aA):=by
 refine F.gH mI Wa (fun bV A outer s H vs Q E hr h hX=>?_)
 ·obtain⟨x,dx,a,r,p,w,rfl,_⟩:=h;rfl
 ·obtain⟨x,dx,a,r,p,w,rfl,hx,q⟩:=h;refine⟨_,(OA (Zg K V7 (pv 1)) (OA (Zg K V7 (pv 2)) (OA (Zg K V7 (pv 3)) (Lw (Zg K V7 (pv 4)))))),?_⟩;have a1:=aW "worth" (.int w) [];have a2:=aW "way" (.ref a) (bp "worth" (.int w) []);have a3:=aW "row" (.ref r) (bp "way" (.ref a) (bp "worth" (.int w) []));simp only[List.length_nil]at a1;refine⟨_,rfl,_,rfl,x,aA,dx,_,rfl,hx,Fc.cl,Fc.worth,Nn,?_⟩;refine⟨_,rfl,_,rfl,x,aA,dx,_,rfl,ae,Fc.cl,Fc.way,by lia,?_⟩;refine⟨_,rfl,_,rfl,x,aA,dx,_,rfl,ae,Fc.cl,Fc.row,by lia,?_⟩;refine⟨_,rfl,_,rfl,x,aA,dx,_,rfl,ae,Fc.cl,Fc.pairs,by lia,?_⟩;rw[fZ,fZ,fZ,LM];exact q
theorem y_:aL ["finding"] ["finding"] (au nK):=⟨rfl,rfl,rfl,by decide+kernel,rfl,by decide+kernel,by decide+kernel⟩
include T Fc in
theorem za{f:Addr}{fd:FuncData}(F:jN K "order_of" "order_of" nK f fd):aZ P w K mg base (dz P w) true 1 f fd ["finding"] (tO aA):=by
 refine F.gH y_ Wa (fun bV A outer s H vs Q E hr h hX=>?_)
 ·obtain⟨x,dx,a,r,p,w,us,ps,rfl,_⟩:=h;rfl
 ·obtain⟨x,dx,a,r,p,w,us,ps,rfl,hx,hp,PS,cG,q⟩:=h;refine⟨_,(Lw (X' (Zm (Z1 (@mP _ _ _ _ _ _ jM (ZY K)) (ZU (Ξ ai)))))),?_⟩;obtain⟨t,h1,h2⟩:=PS.first cG;refine⟨_,rfl,x,aA,dx,_,_,rfl,hx,Fc.cl,Fc.worth,j8 w a r p,_,rfl,_,rfl,x,aA,dx,_,_,rfl,hx,Fc.cl,Fc.pairs,jb w a r p,p,_,_,_,rfl,rfl, .of hp,h1,aD Mi,fun k hk=>?_⟩;exact q _ k t (UO hk) ae (av.upd hk _ _ h2)
variable(fL:eE P w K mg base true 4 az "way_to" ["self","pair"] (Aq az))
variable(kQ:mS P w K mg base true 1 "Finding" aA ["self","worth","way","row","pairs"] [] (tN aA))
theorem fM:aL ["trails","worth","pairs","ends","way","row"] ["trails","worth","pairs"] (au e7):=⟨rfl,rfl,rfl,by decide+kernel,rfl,by decide+kernel,by decide+kernel⟩
include T Rc fL kQ in
theorem rW{f:Addr}{fd:FuncData}(F:jN K "make_finding" "make_finding" e7 f fd):aZ P w K mg base (dz P w) true 6 f fd ["trails","worth","pairs"] (Au az aA):=by
 refine F.gH fM Wa (fun bV A outer s H vs Q E hr h hX=>?_)
 ·obtain⟨x,dx,e,b,es,bs,f,o,p,n,m,w,pr,us,ps,q0,rfl,_⟩:=h;rfl
 ·obtain⟨x,dx,e,b,es,bs,f1,o,p,n,m,w,pr,us,ps,q0,rfl,TR,BX,PS,oe,h0,hn,CM,q⟩:=h;refine⟨_,(UN (@oJ _ _ _ _ _ _ _ _ _ _ _ _ _ _ _ (3) _ _ (by exact rfl) fM.nd ZE (by exact rfl) (show bh ["trails","worth","pairs","ends","way","row"] (au e7) _ ["pair"] [0,1] ["trails","worth"]from⟨rfl,by decide+kernel,by decide+kernel,by decide+kernel,rfl,rfl,by decide+kernel,by decide+kernel,by decide+kernel⟩) (ZH K W4) (fun _ _ _ _ _=>(ZT (0) (show(["pair","trails","worth"]:List Str).Nodup by decide+kernel))) (fun _ _ _ _ _=>(@Bg _ _ _ (Y7 jn (Z0 (Z0 (Zx K Rl) (ZK (bH K) (pv 0) ai)) (ZK (bH K) (pv 0) ai)) (pv 2)))) (fun _ _ _ _ _=>(pv 0)) (XR) (by intro _;rfl)) (UN (ZS (4) fM.nd (Ζ V7 fL aR (ZU (Z0 W5 ai)))) (UN (@oJ _ _ _ _ _ _ _ _ _ _ _ _ _ _ _ (5) _ _ (by exact rfl) fM.nd ZE (by exact rfl) (show bh ["trails","worth","pairs","ends","way","row"] (au e7) _ ["i","j"] [0] ["trails"]from⟨rfl,by decide+kernel,by decide+kernel,by decide+kernel,rfl,rfl,by decide+kernel,by decide+kernel,by decide+kernel⟩) (ZH K Xr) (fun _ _ _ _ _=>(Β K (2) (ZG (ZT (0) (show(["i","j","trails"]:List Str).Nodup by decide+kernel)) (ZG (ZT (1) (show(["i","j","trails"]:List Str).Nodup by decide+kernel)) fF)))) (fun _ _ _ _ _=>f7) (fun _ _ _ _ _=>(Z0 (Z0 (Zx K W4) (pv 0)) (pv 1))) (XR) (by intro _;rfl)) (Lw (X' (ξ kQ (hr.mono ZO) hX.pass (Z1 Rl (Z1 Xr (Χ (pv 5)))))))))),?_⟩;have Io:us.length=ps.length:=by have:=PS.1;simpa using this
  refine⟨fun σ H1=>∃D vs,σ=[sR x,sI w,sR pr,sR D,none,none]∧av H H1∧H1 D=some (.lst vs)∧fK H1 vs ((ps.filter fun q=>decide (dD f1 o p q.1 q.2=some w)).map aP),?_,?_⟩
  ·refine⟨_,rfl,pr,rfl,⟨_, .of BX⟩,fun D hD=>?_⟩;refine fV (xs:=us) (fun k ys bx H'=>(∃u,bx=[u,sR x,sI w])∧fK H ys (((ps.take k).filter fun q=>decide (dD f1 o p q.1 q.2=some w)).map aP)∧H' D=some (.lst ys)∧av H H'∧ys.length≤k) ⟨⟨_,rfl⟩, .nil,ae,UO hD,IM⟩ ?_ ?_ ?_
   ·rintro k ys bx H' _ ⟨_,_,_,s1,_⟩;exact .of (s1 _ _ BX)
   ·rintro k v ys bx H' hv ⟨⟨u,rfl⟩,P1,rT,s1,lb⟩;have hk:k<ps.length:=by rw[←Io];exact(ZX hv).1
    have ek:ps[k]?=some ps[k]:=by simp[hk]
    have hm:=oe ps[k] (Zq hk);generalize ps[k]=g at ek hm;obtain⟨t,k1,k2⟩:=PS.2 k (aP g) (by rw[List.getElem?_map,ek];rfl);rw[hv]at k1;cases k1;have T1:=TR.keep s1;have kt:=s1 _ _ k2;obtain⟨rb,g1,g2,g3⟩:=T1.te.at hm.1;have et:ps.take (k+1)=ps.take k++[g]:=by rw[List.take_succ,ek];rfl
    refine⟨_,rfl,x,az,dx,_,_,rfl,T1.ob,Rc.cl,Rc.kE,ie o p e b,_,rfl,t,_,_,_,rfl,rfl, .of kt,R6 (j:=0),e,_,_,_,rfl,rfl, .of T1.he,ar g2,_,rfl,t,_,_,_,rfl,rfl, .of kt,R6 (j:=1),rb,_,_,_,rfl,rfl, .of g3,ar (de hm.2),?_⟩;have JH:decide (bB (dD f1 o p g.1 g.2)=V.int w)=decide (dD f1 o p g.1 g.2=some w):=by cases dD f1 o p g.1 g.2<;>simp[bB]
    refine⟨_,rfl,by cases dD f1 o p g.1 g.2<;>rfl,_,rfl,?_⟩;rw[JH];refine ba (fun hh=>?_) (fun hh=>?_)
    ·refine⟨_,rfl,rT,a_ D9,⟨_,rfl⟩,?_,ae,s1.eR hD,by simp;lia⟩;rw[et,List.filter_append,List.map_append];refine P1.append ?_;rw[show[g].filter (fun q=>decide (dD f1 o p q.1 q.2=some w))=[g] by rw[List.filter_cons,HB hh];rfl];exact⟨rfl,fun k3 g3 QI=>by
      have Yb:k3=0:=by
       have:=(ZX QI).1;simp at this
       lia
      subst Yb;have QI:aP g=g3:=by simpa using QI
      subst QI;exact⟨t,rfl,k2⟩⟩
    ·have hh:decide (dD f1 o p g.1 g.2=some w)=false:=by simpa using hh
     refine⟨⟨_,rfl⟩,?_,rT,s1,by lia⟩;rw[et,List.filter_append,show[g].filter (fun q=>decide (dD f1 o p q.1 q.2=some w))=[] by rw[List.filter_cons,hh];rfl,List.append_nil];exact P1
   ·rintro ys bx H' ⟨_,P1,rT,s1,_⟩;rw[Io,List.take_length]at P1;exact⟨D,ys,rfl,s1,rT,P1.same s1⟩
  rintro σ H1 ⟨D,vs,rfl,s1,rT,P1⟩;obtain⟨t0,k1,k2⟩:=P1.2 0 (aP q0) (by rw[List.getElem?_map,h0];rfl);have F8:q0.1<n∧q0.2<m:=oe q0 (List.mem_filter.mp (WI h0)).1;refine⟨fun σ H2=>∃wy iq,σ=[sR x,sI w,sR pr,sR D,sR wy,none]∧av H1 H2∧H1 wy=none∧H2 wy=some (.lst iq)∧fK H2 iq ((eG f1 o p q0.1 q0.1 q0.2).map aP),?_,?_⟩
  ·have T1:=TR.keep s1;exact⟨_,rfl,x,dx,_,rfl,T1.ob,OB o p e b,_,rfl,D,_,_,_,rfl,rfl, .of rT,ar (j:=0) k1,x,dx,e,b,es,bs,f1,o,p,n,m,t0,q0.1,q0.2,rfl,T1,k2,F8.1,F8.2,hn,fun H2 wy iq s2 h2 h3 P2=>⟨wy,iq,rfl,s2,h2,h3,P2⟩⟩
  rintro σ H2 ⟨wy,iq,rfl,s2,Ti,DI,P2⟩;have AK:=P2.1;rw[List.length_map]at AK;have IY:(eG f1 o p q0.1 q0.1 q0.2).length≤1001:=by
   have:=yX (f:=f1) (o:=o) (p:=p) q0.1 q0.1 q0.2
   lia
  have O8:=BI (f:=f1) (o:=o) (p:=p) q0.1 q0.1 q0.2 F8.1 F8.2;generalize eG f1 o p q0.1 q0.1 q0.2=W at P2 AK IY O8 q;refine⟨fun σ H3=>∃r,σ=[sR x,sI w,sR pr,sR D,sR wy,sR r]∧av H2 H3∧H2 r=none∧H3 r=some (.lst (W.map fun q=>bB (dD f1 o p q.1 q.2))),?_,?_⟩
  ·refine⟨_,rfl,wy,rfl,⟨_, .of DI⟩,fun D2 la=>?_⟩;refine fV (xs:=iq) (fun k ys bx H'=>(∃u v,bx=[u,v,sR x])∧ys=(W.take k).map (fun q=>bB (dD f1 o p q.1 q.2))∧H' D2=some (.lst ys)∧av H2 H') ⟨⟨_,_,rfl⟩,rfl,ae,UO la⟩ ?_ ?_ ?_
   ·rintro k ys bx H' _ ⟨_,_,_,s3⟩;exact .of (s3 _ _ DI)
   ·rintro k v ys bx H' hv ⟨⟨u,v2,rfl⟩,rfl,Df,s3⟩;have hk:k<W.length:=by rw[←AK];exact(ZX hv).1
    have ek:W[k]?=some W[k]:=by simp[hk]
    have hm:=O8 W[k] (Zq hk);generalize W[k]=g at ek hm;obtain⟨t,k1,k2⟩:=P2.2 k (aP g) (by rw[List.getElem?_map,ek];rfl);rw[hv]at k1;cases k1;have T3:=TR.keep (s1.trans (s2.trans s3));have kt:=s3 _ _ k2;obtain⟨rb,g1,g2,g3⟩:=T3.te.at hm.1;refine⟨t,_,rfl, .of kt,rfl,_,_,rfl,_,_,rfl,rfl,?_⟩;refine sr ?_;refine⟨_,rfl,x,az,dx,_,_,rfl,T3.ob,Rc.cl,Rc.kE,ie o p e b,_,rfl,e,_,_,_,rfl,rfl, .of T3.he,ar g2,_,rfl,rb,_,_,_,rfl,rfl, .of g3,ar (de hm.2),?_⟩;refine⟨Df,a_ (by rw[List.length_map,List.length_take];lia),⟨_,_,rfl⟩,?_,ae,s3.eR la⟩;rw[List.take_succ,ek];simp
   ·rintro ys bx H' ⟨_,rfl,Df,s3⟩;rw[AK,List.take_length]at Df;exact⟨D2,rfl,s3,la,Df⟩
  rintro σ H3 ⟨r,rfl,s3,rD,xr⟩;refine⟨_,rfl,_,rfl,_,rfl,_,rfl,fun y dy hy L3 cG=>?_⟩;have s4:av H3 (upd (upd H3 dy (.own y)) y (.ins aA dy [])):=(UO L3).eR hy;refine⟨y,dy,wy,r,pr,w,rfl,ae,?_⟩;refine⟨rfl,?_⟩;rw[fZ];have s5:av H3 (upd (upd H3 dy (.own y)) y (.ins aA dy (mY w wy r pr))):=(UO L3).eR hy;have sH:=s1.trans (s2.trans s3);exact q _ y dy wy r iq (sH.trans s5) (sH.free hy) (sH.free L3) (s1.free Ti) ((s1.trans s2).free rD) ae (by rw[aj cG];exact ae) (s5 _ _ (s3 _ _ DI)) (P2.same (s3.trans s5)) (s5 _ _ xr)
variable(Gc:OC K aI)
theorem nS:aL ["self"] ["self"] (au gc):=⟨rfl,rfl,rfl,by decide+kernel,rfl,by decide+kernel,by decide+kernel⟩
include T Gc in
theorem nU{f:Addr}{fd:FuncData}(F:iu K "__init__" "Groups.__init__" gc f fd):aZ P w K mg base (dz P w) true 1 f fd ["self"] (tP aI):=by
 refine F.gH nS Wa (fun bV A outer s H vs Q E hr h hX=>?_)
 ·obtain⟨x,dx,rfl,_⟩:=h;rfl
 ·obtain⟨x,dx,rfl,hx,q⟩:=h;refine⟨_,(OA (Zg K V7 j1) (Lw (Zg K V7 j1))),?_⟩;have a1:=aW "leads" (.ref 0) [];simp only[List.length_nil]at a1;refine fun dl QJ=>?_
  have n1:x≠dl:=aC hx QJ;refine⟨_,rfl,x,aI,dx,_,rfl,by rw[aj n1];exact hx,Gc.cl,Gc.oW,Nn,?_⟩;refine fun dm JI=>?_
  have n2:x≠dm:=fun z=>by rw[z,ae]at JI;cases JI
  have Iq:upd H dl (.dT []) dm=none:=by rw[aj (WR n2)]at JI;exact JI
  have n3:dm≠dl:=fun z=>by rw[z,ae]at Iq;cases Iq
  have O9:H dm=none:=by rw[aj n3]at Iq;exact Iq
  refine⟨_,rfl,x,aI,dx,_,rfl,by rw[aj n2,ae],Gc.cl,Gc.members,by have:=aW "leads" (.ref dl) [];simp at this;lia,?_⟩;rw[OD];refine q _ (fun a=>a=dl∨a=dm) ?_ ?_ ?_
  ·exact fun b u hb e=>by
    rw[aj hb,aj (aC e O9),aj hb,aj (aC e QJ)];exact e
  ·rintro a (rfl|rfl)
   ·exact QJ
   ·exact O9
  ·refine⟨dx,dl,dm,[],[],fun _=>none,fun _=>none,ae,fun z=>z.elim n1 n2,⟨?_,?_, .inl rfl, .inr rfl,WR n3,fun p=>rfl,fun p=>rfl,fun p q a e=>(by cases e),fun kv h=>(by cases h), .nil,fun l ms e=>(by cases e),fun p l e=>(by cases e),fun l ms e=>(by cases e)⟩,fun a b=>⟨False.elim,fun⟨l,e,_⟩=>(by cases e)⟩,Nat.le_refl _,Nat.le_refl _⟩
   ·rw[aj (WR n1),aj (WR n3),aj (WR n1),ae]
   ·rw[aj (WR n2),ae]
theorem uN:aL ["self","pair"] ["self","pair"] (au iM):=⟨rfl,rfl,rfl,by decide+kernel,rfl,by decide+kernel,by decide+kernel⟩
include T Gc in
theorem uO{f:Addr}{fd:FuncData}(F:iu K "has" "Groups.has" iM f fd):aZ P w K mg base (dz P w) true 1 f fd ["self","pair"] (Av aI):=by
 refine F.gH uN Wa (fun bV A outer s H vs Q E hr h hX=>?_)
 ·obtain⟨x,t,p,S,E1,B,rfl,_⟩:=h;rfl
 ·obtain⟨x,t,p,S,E1,B,rfl,G,ht,q⟩:=h;have hu:=hr.units;have hu:(A.deeper (Zp "Groups.has" (au iM) f bV)).units+1<cLine:=by lia
  refine⟨_,(Lw (X' (@zG _ _ _ _ _ _ (@qm _ _ _ _ _ hu Rl (ZY K)) (by first|exact bj _ (Nn) (Nn)|rfl)))),?_⟩;obtain⟨dg,dl,dm,kl,km,ld,mm,hg,Gd,D,hE,QK,MP⟩:=G;refine⟨_,rfl,_,rfl,x,aI,dg,_,_,rfl,hg,Gc.cl,Gc.oW,ju dl dm,dl,_,rfl, .t (k:=a8 p) D.hl ht,q _ ?_⟩;rw[hE];have:=D.lv p;cases e:ld p with
  |none=>
   rw[e]at this;have this:bu kl (a8 p)=none:=this;rw[this];simp
  |some l=>
   rw[e]at this;obtain⟨t2,h1,_⟩:=this;rw[h1];simp
theorem pd:aL ["self","pair"] ["self","pair"] (au ft):=⟨rfl,rfl,rfl,by decide+kernel,rfl,by decide+kernel,by decide+kernel⟩
include T Gc in
theorem pe{f:Addr}{fd:FuncData}(F:iu K "take_in" "Groups.take_in" ft f fd):aZ P w K mg base (dz P w) true 1 f fd ["self","pair"] (xg aI):=by
 refine F.gH pd Wa (fun bV A outer s H vs Q E hr h hX=>?_)
 ·obtain⟨x,t,p,S,E1,B,rfl,_⟩:=h;rfl
 ·obtain⟨x,t,p,S,E1,B,rfl,G,ht,hB,q⟩:=h;have hu:=hr.units;have hu:(A.deeper (Zp "Groups.take_in" (au ft) f bV)).units+1<cLine:=by lia
  refine⟨_,(Lw (Yh (Z' (@vD _ _ _ _ _ hu Rl (ZY K))) (OA (@ku _ _ _ _ _ _ _ _ _ hu (ZY K) (pv 1) (pv 1) (by exact rfl)) (Lw (@ku _ _ _ _ _ _ _ _ _ hu (ZY K) (pv 1) (ZC (ZU Rl)) (by exact rfl)))) aQ)),?_⟩;obtain⟨dg,dl,dm,kl,km,ld,mm,hg,Gd,D,hE,QK,MP⟩:=id G;refine⟨_,rfl,_,rfl,x,aI,dg,_,_,rfl,hg,Gc.cl,Gc.oW,ju dl dm,dl,_,rfl, .t (k:=a8 p) D.hl ht,_,rfl,?_⟩;have lv:=D.lv p;cases e:ld p with
  |some l=>
   rw[e]at lv;obtain⟨t2,h1,_⟩:=lv;rw[h1];refine gM ?_;refine q H S (.same (.refl H)) (G.iff (fun a b=>?_) (by lia));unfold Jv;refine⟨fun z=>z.elim id ?_, .inl⟩;rintro⟨rfl,rfl⟩;rw[hE];exact⟨l,e,e⟩
  |none=>
   rw[e]at lv;have lv:bu kl (a8 p)=none:=lv;rw[lv];refine jO ?_;have nx:x≠dl:=fun z=>Gd (z▸D.sl)
   have QL:x≠dm:=fun z=>Gd (z▸D.sm)
   have Tj:t≠dl:=fun z=>by rw[z,D.hl]at ht;cases ht
   have aaf:t≠dm:=fun z=>by rw[z,D.hm]at ht;cases ht
   refine⟨_,rfl,_,rfl,x,aI,dg,_,_,rfl,hg,Gc.cl,Gc.oW,ju dl dm,_,rfl,dl,_,rfl, .t (k:=a8 p) D.hl ht (a_ D9),?_⟩;refine⟨_,rfl,aD Mi,fun a ha=>?_⟩;have na:a≠dl:=fun z=>by rw[z,ae]at ha;cases ha
   have DH:H a=none:=by rw[aj na]at ha;exact ha
   have O2:x≠a:=aC hg DH;have Vu:dm≠a:=aC D.hm DH;have Yc:t≠a:=aC ht DH;refine⟨_,rfl,x,aI,dg,_,_,rfl,by rw[aj O2,aj nx];exact hg,Gc.cl,Gc.members,iZ dl dm,_,rfl,dm,_,rfl, .t (k:=a8 p) (by rw[aj Vu,aj (WR D.ne)];exact D.hm) (by rw[aj Yc,aj Tj];exact ht) (a_ D9),?_⟩;refine q _ (fun y=>S y∨y=a) ⟨fun y hy=>hy.imp id (fun z=>by rw[z];exact DH),fun b o hb eb=>?_⟩ ?_
   ·rw[aj (fun z:b=dm=>hb (by rw[z];exact D.sm)),aj (aC eb DH),aj (fun z:b=dl=>hb (by rw[z];exact D.sl))];exact eb
   refine⟨dg,dl,dm,_,_,_,_,by rw[aj QL,aj O2,aj nx];exact hg,fun z=>z.elim Gd O2,D.take (t:=t) (a:=a) e ht DH ?_ ae ?_ ?_,fun a1 b1=>?_,?_,?_⟩
   ·rw[aj D.ne,aj (WR na),ae]
   ·rw[aj (WR Vu),ae]
   ·intro b o h1 h2 eb;rw[aj h2,aj (aC eb DH),aj h1];exact eb
   ·unfold Jv;rw[hE];constructor
    ·rintro(⟨l,h1,h2⟩|⟨z1,z2⟩)
     ·exact⟨l,by rw[Dt (fun z=>by rw[z,e]at h1;cases h1)];exact h1,by rw[Dt (fun z=>by rw[z,e]at h2;cases h2)];exact h2⟩
     ·exact⟨p,by rw[HB z1],by rw[HB z2]⟩
    ·rintro⟨l,h1,h2⟩;by_cases z1:a1=p
     ·by_cases z2:b1=p
      ·exact .inr ⟨z1,z2⟩
      ·rw[HB z1]at h1;rw[Dt z2]at h2;cases h1;obtain⟨ms,DD⟩:=D.ml _ _ h2;have:=D.self _ _ DD;rw[e]at this;cases this
     ·rw[Dt z1]at h1;by_cases z2:b1=p
      ·rw[HB z2]at h2;cases h2;obtain⟨ms,DD⟩:=D.ml _ _ h1;have:=D.self _ _ DD;rw[e]at this;cases this
      ·rw[Dt z2]at h2;exact .inl ⟨l,h1,h2⟩
   ·exact ZN (eV _ _ _) (by lia)
   ·exact ZN (eV _ _ _) (by lia)
theorem cC:aL ["self","pair","other","lead","gone","moved","member"] ["self","pair","other"] (au e_):=⟨rfl,rfl,rfl,by decide+kernel,rfl,by decide+kernel,by decide+kernel⟩
include T Gc in
theorem rX{f:Addr}{fd:FuncData}(F:iu K "unite" "Groups.unite" e_ f fd):aZ P w K mg base (dz P w) true 1 f fd ["self","pair","other"] (tQ aI):=by
 refine F.gH cC Wa (fun bV A outer s H vs Q E hr h hX=>?_)
 ·obtain⟨x,t,u,p,q,S,E1,B,rfl,_⟩:=h;rfl
 ·obtain⟨x,t,u,p,q,S,E1,B,rfl,G,ht,Qy,hp,hq,hB,qq⟩:=h;have hu:=hr.units;have JJ:(A.deeper (Zp "Groups.unite" (au e_) f bV)).units<cLine:=by lia
  have hu:(A.deeper (Zp "Groups.unite" (au e_) f bV)).units+1<cLine:=by lia
  refine⟨_,(UN (ZS (3) cC.nd (Ν hu Rl (fun _ _=>rfl))) (UN (ZS (4) cC.nd (Ν hu W4 (fun _ _=>rfl))) (Lw (Yh (Y7 (CV K JJ) (pv 3) (pv 4)) (UN (Yh (Y7 mQ (ZW (aJ K) (ZU (Ν hu W5 (fun _ _=>rfl)))) (ZW (aJ K) (ZU (Ν hu Xr (fun _ _=>rfl))))) (UN (ZS (3) cC.nd (Ν hu W4 (fun _ _=>rfl))) (Lw (ZS (4) cC.nd (Ν hu Rl (fun _ _=>rfl))))) aQ) (UN (ZS (5) cC.nd (@ES _ _ _ _ _ _ _ hu (ZY K) (pv 4) ⟨rfl,rfl,rfl,rfl⟩)) (UN (Z5 (ZH K (pv 5)) (ZT (6) cC.nd) (Lw (@ku _ _ _ _ _ _ _ _ _ hu (ZY K) (pv 6) (pv 3) (by exact rfl)))) (Lw (Y_ (@eX _ K _ _ _ _ _ _ _ _ _ _ _ PySem.F.plainAttrs_list PySem.F.slot_list_extend PySem.F.type_list_extend vE (Ν hu W5 (fun _ _=>rfl)) (ZU (pv 5)) (XR) (XR) (XR) (XR) (XR) (XR))))))) aQ)))),?_⟩;obtain⟨dg,dl,dm,kl,km,ld,mm,hg,Gd,D,hE,QK,MP⟩:=id G;obtain⟨l,JK,_⟩:=(hE p p).mp hp;obtain⟨g,JL,_⟩:=(hE q q).mp hq;obtain⟨tl,vl,yZ⟩:∃tl,bu kl (a8 p)=some (.ref tl)∧H tl=some (.tup (iE l)):=by have:=D.lv p;rw[JK]at this;exact this
  obtain⟨tg,vg,MQ⟩:∃tg,bu kl (a8 q)=some (.ref tg)∧H tg=some (.tup (iE g)):=by have:=D.lv q;rw[JL]at this;exact this
  refine⟨fun σ H1=>H1=H∧σ=[sR x,sR t,sR u,sR tl,none,none,none],⟨_,rfl,x,aI,dg,_,_,rfl,hg,Gc.cl,Gc.oW,ju dl dm,_,rfl,dl,_,rfl,by have:=jZ.t (k:=a8 p) D.hl ht;rw[vl]at this;exact this,rfl,rfl⟩,?_⟩;rintro σ H1 ⟨rfl,rfl⟩;refine⟨fun σ H2=>H2=H1∧σ=[sR x,sR t,sR u,sR tl,sR tg,none,none],⟨_,rfl,x,aI,dg,_,_,rfl,hg,Gc.cl,Gc.oW,ju dl dm,_,rfl,dl,_,rfl,by have:=jZ.t (k:=a8 q) D.hl Qy;rw[vg]at this;exact this,rfl,rfl⟩,?_⟩;rintro σ H2 ⟨rfl,rfl⟩;refine⟨_,rfl,_,rfl,tl,tg,_,_,rfl,rfl, .of yZ, .of MQ,rfl,rfl,_,rfl,?_⟩;rw[w6];by_cases BM:l=g
  ·rw[Zn BM];refine gM ?_;refine qq _ (.same (.refl _)) (G.iff (fun a b=>?_) (Nat.le_refl _));subst BM;unfold qG;rw[hE,hE,hE,hE,hE,JK,JL];constructor
   ·rintro(z|⟨z1,z2⟩)
    ·exact z
    ·have y1:ld a=some l:=by rcases z1 with⟨y,h1,h2⟩|⟨y,h1,h2⟩<;>(cases h2;exact h1)
     have y2:ld b=some l:=by rcases z2 with⟨y,h1,h2⟩|⟨y,h1,h2⟩<;>(cases h2;exact h1)
     exact⟨l,y1,y2⟩
   ·exact .inl
  rw[Zs BM];refine jO ?_;obtain⟨m1,BY⟩:=D.ml p l JK;obtain⟨m2,GB⟩:=D.ml q g JL;obtain⟨al,kG,O_,BN,P1,_⟩:∃a us,bu km (a8 l)=some (.ref a)∧H2 a=some (.lst us)∧fK H2 us m1∧S a:=by have:=D.mv l;rw[BY]at this;exact this
  obtain⟨ag,iq,QM,Ir,P2,_⟩:∃a us,bu km (a8 g)=some (.ref a)∧H2 a=some (.lst us)∧fK H2 us m2∧S a:=by have:=D.mv g;rw[GB]at this;exact this
  have gl:∀{tt:Addr}{r:Pr},H2 tt=some (.tup (iE r))→jZ H2 dm (.ref tt) (bu km (a8 r)):=fun h=>jZ.t (k:=a8 _) D.hm h
  have Vv:∀{tt:Addr}{r:Pr},H2 tt=some (.tup (iE r))→jZ H2 dl (.ref tt) (bu kl (a8 r)):=fun h=>jZ.t (k:=a8 _) D.hl h
  refine⟨fun σ H3=>H3=H2∧∃l g tl tg p' q',σ=[sR x,sR t,sR u,sR tl,sR tg,none,none]∧l≠g∧H2 tl=some (.tup (iE l))∧H2 tg=some (.tup (iE g))∧ld p'=some l∧ld q'=some g∧∀a b,qG E1 p q a b↔qG E1 p' q' a b,?_,?_⟩
  ·refine⟨_,rfl,x,aI,dg,_,_,rfl,hg,Gc.cl,Gc.members,iZ dl dm,_,rfl,dm,_,rfl,by have:=gl yZ;rw[O_]at this;exact this,al,_,rfl, .inl (.of BN),?_⟩;refine⟨_,rfl,x,aI,dg,_,_,rfl,hg,Gc.cl,Gc.members,iZ dl dm,_,rfl,dm,_,rfl,by have:=gl MQ;rw[QM]at this;exact this,ag,_,rfl, .inl (.of Ir),?_⟩;refine⟨_,_,rfl,rfl,_,rfl,?_⟩;refine ba (fun _=>?_) (fun _=>?_)
   ·refine⟨fun σ H3=>H3=H2∧σ=[sR x,sR t,sR u,sR tg,sR tg,none,none],⟨_,rfl,x,aI,dg,_,_,rfl,hg,Gc.cl,Gc.oW,ju dl dm,_,rfl,dl,_,rfl,by have:=Vv Qy;rw[vg]at this;exact this,rfl,rfl⟩,?_⟩;rintro σ H3 ⟨rfl,rfl⟩;refine⟨_,rfl,x,aI,dg,_,_,rfl,hg,Gc.cl,Gc.oW,ju dl dm,_,rfl,dl,_,rfl,by have:=Vv ht;rw[vl]at this;exact this,rfl,g,l,tg,tl,q,p,rfl,WR BM,MQ,yZ,JL,JK,fun a b=>CW⟩
   ·exact⟨rfl,l,g,tl,tg,p,q,rfl,BM,yZ,MQ,JK,JL,fun a b=>Iff.rfl⟩
  rintro σ H3 ⟨rfl,l,g,tl,tg,p',q',rfl,BM,yZ,MQ,JK,JL,Yd⟩;obtain⟨m1,BY⟩:=D.ml p' l JK;obtain⟨m2,GB⟩:=D.ml q' g JL;obtain⟨al,kG,O_,BN,P1,Vw⟩:∃a us,bu km (a8 l)=some (.ref a)∧H3 a=some (.lst us)∧fK H3 us m1∧S a:=by have:=D.mv l;rw[BY]at this;exact this
  obtain⟨ag,iq,QM,Ir,P2,aae⟩:∃a us,bu km (a8 g)=some (.ref a)∧H3 a=some (.lst us)∧fK H3 us m2∧S a:=by have:=D.mv g;rw[GB]at this;exact this
  have abR:al≠ag:=fun z=>BM (D.inj l g al O_ (by rw[QM,z]))
  have l1:=D.uB (D.ms l m1 BY).1 (fun r hr=>⟨l,((D.ms l m1 BY).2 r).mp hr⟩);have l2:=D.uB (D.ms g m2 GB).1 (fun r hr=>⟨g,((D.ms g m2 GB).2 r).mp hr⟩);have nx:x≠dl:=fun z=>Gd (by rw[z];exact D.sl)
  have QL:x≠dm:=fun z=>Gd (by rw[z];exact D.sm)
  have Pa:al≠dl:=fun z=>by rw[z,D.hl]at BN;cases BN
  have Pb:al≠dm:=fun z=>by rw[z,D.hm]at BN;cases BN
  have Pc:ag≠dl:=fun z=>by rw[z,D.hl]at Ir;cases Ir
  have L4:ag≠dm:=fun z=>by rw[z,D.hm]at Ir;cases Ir
  have AK:=P2.1;refine⟨fun σ H4=>H4=upd H3 dm (.dT (i6 km (a8 g)))∧σ=[sR x,sR t,sR u,sR tl,sR tg,sR ag,none],?_,?_⟩
  ·exact⟨_,rfl,x,aI,dg,_,_,rfl,hg,Gc.cl,Gc.members,iZ dl dm,dm,rfl, .inr ⟨km, .of D.hm⟩,_,rfl,dm,tg,km,a8 g,_,rfl,rfl,D.hm,MQ,QM,rfl,rfl⟩
  rintro σ H4 ⟨rfl,rfl⟩;refine⟨fun σ H5=>(∃w,σ=[sR x,sR t,sR u,sR tl,sR tg,sR ag,w])∧∃uI,H5 dl=some (.dT uI)∧uI.length≤B∧(∀r,bu uI (a8 r)=if r∈m2 then some (.ref tl)else bu kl (a8 r))∧SameBut dl (upd H3 dm (.dT (i6 km (a8 g)))) H5,?_,?_⟩
  ·refine⟨_,rfl,ag,rfl,⟨_, .of (by rw[aj L4];exact Ir)⟩,?_⟩;refine bW (xs:=iq) (fun i σ H5=>(∃w,σ=[sR x,sR t,sR u,sR tl,sR tg,sR ag,w])∧∃uI,H5 dl=some (.dT uI)∧uI.length≤B∧(∀r,bu uI (a8 r)=if r∈m2.take i then some (.ref tl)else bu kl (a8 r))∧SameBut dl (upd H3 dm (.dT (i6 km (a8 g)))) H5) ?_ ?_ ?_ ?_
   ·exact⟨⟨_,rfl⟩,kl,by rw[aj D.ne];exact D.hl,QK,fun r=>IM, .refl⟩
   ·rintro i σ H5 _ ⟨_,uI,_,_,_,s5⟩;exact .of (s5 _ _ Pc (by rw[aj L4];exact Ir))
   ·rintro i v σ H5 hv ⟨⟨w,rfl⟩,uI,h5,MR,L5,s5⟩;have hi:i<m2.length:=by rw[←AK];exact(ZX hv).1
    have ei:m2[i]?=some m2[i]:=by simp[hi]
    have ja:m2[i]∈m2:=Zq hi;generalize m2[i]=r0 at ei ja;obtain⟨tr,k1,k2⟩:=P2.2 i r0 ei;rw[hv]at k1;cases k1;have Vq:tr≠dl:=fun z=>by rw[z,D.hl]at k2;cases k2
    have Tn:tr≠dm:=fun z=>by rw[z,D.hm]at k2;cases k2
    have k5:=s5 tr _ Vq (by rw[aj Tn];exact k2);have g5:=s5 x _ nx (by rw[aj QL];exact hg);refine⟨_,rfl,_,rfl,x,aI,dg,_,_,rfl,g5,Gc.cl,Gc.oW,ju dl dm,_,rfl,dl,_,rfl, .t (k:=a8 r0) h5 k5 (a_ D9),⟨_,rfl⟩,_,ae,?_,fun r=>?_,s5.upd⟩
    ·have oe:bu uI (a8 r0)≠none:=by
      rw[L5];split
      ·simp
      ·have:=D.lv r0;rw[((D.ms g m2 GB).2 r0).mp ja]at this;obtain⟨t0,z,_⟩:=this;rw[z];simp
     have:(putK uI (a8 r0) (.ref tl)).length=uI.length:=by
      unfold putK;rw[h_,HB (by cases z:bu uI (a8 r0)<;>simp_all),List.length_map]
     lia
    ·rw[i7,L5];have et:m2.take (i+1)=m2.take i++[r0]:=by rw[List.take_succ,ei];rfl
     rw[et];by_cases e:r=r0
     ·rw[HB (by rw[e]),HB (by simp[e])]
     ·rw[Dt (fun z=>e (dh z))];by_cases e2:r∈m2.take i
      ·rw[HB e2,HB (by simp[e2])]
      ·rw[Dt e2,Dt (by simp[e,e2])]
   ·rintro σ H5 ⟨⟨w,rfl⟩,uI,h5,MR,L5,s5⟩;rw[AK,List.take_length]at L5;exact⟨⟨_,rfl⟩,uI,h5,MR,L5,s5⟩
  rintro σ H5 ⟨⟨w,rfl⟩,uI,h5,MR,L5,s5⟩;have Tj:tl≠dl:=fun z=>by rw[z,D.hl]at yZ;cases yZ
  have To:tl≠dm:=fun z=>by rw[z,D.hm]at yZ;cases yZ
  have g5:=s5 x _ nx (by rw[aj QL];exact hg);have m5:=s5 dm _ (WR D.ne) ae;have Vx:=s5 al _ Pa (by rw[aj Pb];exact BN);have Ye:=s5 ag _ Pc (by rw[aj L4];exact Ir);have Yg:=s5 tl _ Tj (by rw[aj To];exact yZ);have vd:bu (i6 km (a8 g)) (a8 l)=some (.ref al):=by rw[mi,Dt (fun z=>BM (dh z))];exact O_
  refine⟨_,rfl,x,aI,dg,_,_,rfl,g5,Gc.cl,Gc.members,iZ dl dm,_,rfl,dm, .ref al,rfl,by have:=jZ.t (k:=a8 l) m5 Yg;rw[vd]at this;exact this, .inl ⟨rfl,_, .of Vx⟩,_,rfl,al,ag,kG,iq,rfl,rfl,Vx,Ye,?_,?_⟩
  ·have:=P1.1;exact aD D9
  have abK:x≠al:=fun z=>Gd (by rw[z];exact Vw)
  have JM:∀b o,¬S b→H3 b=some o→upd H5 al (.lst (kG++iq)) b=some o:=fun b o hb eb=>by
   rw[aj (fun z=>hb (by rw[z];exact Vw))];exact s5 b o (fun z=>hb (by rw[z];exact D.sl)) (by rw[aj (fun z=>hb (by rw[z];exact D.sm))];exact eb)
  refine qq _ ⟨fun _ h=> .inl h,JM⟩ ?_;refine⟨dg,dl,dm,uI,i6 km (a8 g),_,_,JM x _ Gd hg,Gd,D.OG (tl:=tl) BM BY GB O_ P1 P2 BN yZ L5 (by rw[aj (WR Pa)];exact h5) (by rw[aj (WR Pb)];exact m5) ae ?_,fun a b=>(Yd a b).trans (LP BM JK JL (D.ms g m2 GB).2 hE a b),MR,ZN (yt _ _) MP⟩;intro b o h1 h2 h3 eb;rw[aj h3];exact s5 b o h1 (by rw[aj h2];exact eb)
variable(dM:mg "sorted"=none)
theorem t_:aL ["self"] ["self"] (au gY):=⟨rfl,rfl,rfl,by decide+kernel,rfl,by decide+kernel,by decide+kernel⟩
include T Gc dM in
theorem aaO{f:Addr}{fd:FuncData}(F:iu K "told" "Groups.told" gY f fd):aZ P w K mg base (dz P w) true 1 f fd ["self"] (xh aI):=by
 refine F.gH t_ Wa (fun bV A outer s H vs Q E hr h hX=>?_)
 ·obtain⟨x,S,E1,B,rfl,_⟩:=h;rfl
 ·obtain⟨x,S,E1,B,rfl,G,hB,q⟩:=h;refine⟨_,(Lw (X' (@jo _ _ _ _ _ _ _ _ _ _ _ _ _ _ (by exact rfl) (show bh ["self"] (au gY) _ ["members"] [] []from⟨rfl,by decide+kernel,by decide+kernel,by decide+kernel,rfl,rfl,by decide+kernel,by decide+kernel,by decide+kernel⟩) (@aaM _ H _ _ _ _ _ (ZY K) (XR) (XR) (XR)) (fun _ _ _ _ _=>(ZT (0) (show(["members"]:List Str).Nodup by decide+kernel))) (fun _ _ _ _ _=>f7) (fun _ _ _ _ _=>(Z_ (nF K) dM PyProof.Rows.Boot.«sorted» (ZU V7))) (by intro _;rfl)))),?_⟩;obtain⟨dg,dl,dm,kl,km,ld,mm,hg,Gd,D,hE,QK,MP⟩:=G;refine⟨_,rfl,x,aI,dg,_,_,rfl,hg,Gc.cl,Gc.members,iZ dl dm,dm,km,rfl,D.hm,fun o nf R hR=>?_⟩;have nR:R≠dm:=fun z=>by rw[z,ae]at hR;cases hR
  have Tp:H R=none:=by rw[aj nR]at hR;exact hR
  refine CS (fun k ys bx H'=>(∃u,bx=[u])∧(∃gs,f9 H' ys gs∧gs.length=k∧∀(i:Nat) ps,gs[i]?=some ps→∃l ms v,km[i]?=some (a8 l,v)∧mm l=some ms∧ps.Perm ms∧ps.Pairwise fun p q=>ip p q=true)∧H' R=some (.lst ys)∧(∀b o,b≠dm→H b=some o→H' b=some o)∧H' dm=some (.sj o (.dT km))∧∀(i:Nat) a,ys[i]?=some (.ref a)→H a=none∧a≠R) ⟨⟨_,rfl⟩,⟨[], .nil,rfl,fun i ps e=>by simp at e⟩,ae,fun b o hb e=>by rw[aj (aC e Tp),aj hb];exact e,by rw[aj (WR nR),ae],fun i a e=>by simp at e⟩ ?_ ?_ ?_
  ·rintro k ys bx H' _ ⟨_,_,_,_,h4,_⟩;exact h4
  ·rintro k ⟨key,v⟩ ys bx H' hk ⟨⟨u,rfl⟩,⟨gs,W1,hl,MS⟩,Pd,MT,JI,Cn⟩;obtain⟨l,el⟩:=D.key _ (WI hk);have el:key=a8 l:=el;subst el;have vv:=BL D.BK hk;have mv:=D.mv l;cases e:mm l with
   |none=>
    rw[e]at mv;have mv:bu km (a8 l)=none:=mv;rw[mv]at vv;cases vv
   |some ms=>
    rw[e]at mv;obtain⟨a,us,z1,z2,z3,z4⟩:=mv;rw[vv]at z1;cases z1;obtain⟨nd,DD⟩:=D.ms l ms e;have Tq:a≠dm:=fun z=>by rw[z,D.hm]at z2;cases z2
    have T:cO H H':=fun b v hb=>MT b _ (fun z=>by rw[z,D.hm]at hb;cases hb) hb
    refine nq ?_;refine⟨_,rfl,a,us,ms,rfl, .of (MT _ _ Tq z2),z3.cA T,nd,by have:=D.uB nd (fun p hp=>⟨l,(DD p).mp hp⟩);lia,fun D2 Dh qs la P2 perm pw=>?_⟩;have QN:D2≠R:=fun z=>by rw[z,Pd]at la;cases la
    have Vy:D2≠dm:=fun z=>by rw[z,JI]at la;cases la
    have Pe:H D2=none:=by
     cases z:H D2 with
     |none=>rfl
     |some o2=>rw[MT D2 o2 Vy z]at la;cases la
    have Vz:=W1.1;have SR:k<km.length:=(ZX hk).1;refine⟨by rw[aj (WR QN)];exact Pd,a_ D9,⟨_,rfl⟩,⟨gs++[qs],?_,by simp;lia,fun i ps hi=>?_⟩,ae,fun b o hb eb=>?_,?_,fun i a ha=>?_⟩
    ·have W2:f9 (upd H' D2 (.lst Dh)) ys gs:=W1.same (UO la);have W3:f9 (upd H' D2 (.lst Dh)) (ys++[.ref D2]) (gs++[qs]):=W2.append (.one ae (P2.same (UO la)));refine W3.put (fun i e=>?_) (by rw[aj (WR QN)];exact Pd);by_cases hi:i<ys.length
     ·rw[ZA hi]at e;exact(Cn i R e).2 rfl
     ·have:=(ZX e).1;have:i=ys.length:=by simp at this;lia
      subst this;simp at e;exact QN e
    ·by_cases zx:i<gs.length
     ·rw[ZA zx]at hi;exact MS i ps hi
     ·have:=(ZX hi).1;have:i=gs.length:=by simp at this;lia
      subst this;simp at hi;subst hi;exact⟨l,ms,_,by rw[hl];exact hk,e,perm,pw⟩
    ·rw[aj (aC eb Tp),aj (aC eb Pe)];exact MT b o hb eb
    ·rw[aj (WR nR),aj (WR Vy)];exact JI
    ·by_cases hi:i<ys.length
     ·rw[ZA hi]at ha;exact Cn i a ha
     ·have:=(ZX ha).1;have:i=ys.length:=by simp at this;lia
      subst this;simp at ha;subst ha;exact⟨Pe,QN⟩
  ·rintro ys bx H' ⟨_,⟨gs,W1,hl,MS⟩,Pd,MT,JI,Cn⟩;refine q _ R ys gs ⟨fun a h=> .inl h,fun b o hb eb=>MT b o (fun z=>hb (by rw[z];exact D.sm)) eb⟩ Tp Pd W1 (fun k a h=>(Cn k a h).1) ?_;have at_:∀ps∈gs,∃l ms,mm l=some ms∧ps.Perm ms∧ps.Pairwise (fun p q=>ip p q=true):=fun ps CM=>by
    obtain⟨i,hi⟩:=List.getElem?_of_mem CM;obtain⟨l,ms,v,_,h2,h3,h4⟩:=MS i ps hi;exact⟨l,ms,h2,h3,h4⟩
   refine⟨fun ps CM=>?_,fun ps CM=>?_,fun ps CM a ha b=>?_,fun a ha=>?_,?_⟩
   ·obtain⟨_,_,_,_,h4⟩:=at_ ps CM
    exact h4
   ·obtain⟨l,ms,h2,h3,_⟩:=at_ ps CM
    intro z;subst z;have:l∈ms:=((D.ms l ms h2).2 l).mpr (D.self l ms h2);have:=h3.mem_iff.mpr this;cases this
   ·obtain⟨l,ms,h2,h3,_⟩:=at_ ps CM
    have ha:=((D.ms l ms h2).2 a).mp (h3.mem_iff.mp ha);rw[h3.mem_iff,(D.ms l ms h2).2,hE,ha];exact⟨fun z=>⟨l,rfl,z⟩,fun⟨y,h,z⟩=>by cases h;exact z⟩
   ·obtain⟨l,h1,_⟩:=(hE a a).mp ha;obtain⟨ms,DD⟩:=D.ml a l h1;have mv:=D.mv l;rw[DD]at mv;obtain⟨aa,us,z1,_⟩:=mv;obtain⟨i,hi⟩:=yY z1;have hZ:i<gs.length:=by rw[hl];exact(ZX hi).1
    obtain⟨l2,Yi,v,h5,h6,h7,_⟩:=MS i gs[i] (by simp[hZ]);rw[hi]at h5;have:l=l2:=dh (Prod.mk.inj (WK h5)).1;subst this;refine⟨gs[i],Zq hZ,h7.mem_iff.mpr ?_⟩;exact((D.ms l Yi h6).2 a).mpr h1
   ·rw[List.pairwise_iff_getElem];intro i j hi hj mV a ha hb;obtain⟨l1,m1,v1,a1,a2,a3,_⟩:=MS i gs[i] (by simp[hi]);obtain⟨l2,m2,v2,b1,b2,b3,_⟩:=MS j gs[j] (by simp[hj]);have ha:=((D.ms l1 m1 a2).2 a).mp (a3.mem_iff.mp ha);have hb:=((D.ms l2 m2 b2).2 a).mp (b3.mem_iff.mp hb);rw[ha]at hb;cases hb;have nd:=D.BK;have h1:(km.map (·.1))[i]?=some (a8 l1):=by rw[List.getElem?_map,a1];rfl
    have h2:(km.map (·.1))[j]?=some (a8 l1):=by rw[List.getElem?_map,b1];rfl
    have:=(List.getElem?_inj (ZX h1).1 nd).mp (h1.trans h2.symm)
    lia
variable(mB:mS P w K mg base true 1 "Groups" aI ["self"] [] (tP aI))
variable(Hc:Jy K ay)
theorem lr:aL ["self","trails","worth"] ["self","trails","worth"] (au fe):=⟨rfl,rfl,rfl,by decide+kernel,rfl,by decide+kernel,by decide+kernel⟩
include T mB Hc in
theorem lu{f:Addr}{fd:FuncData}(F:iu K "__init__" "Gathering.__init__" fe f fd):aZ P w K mg base (dz P w) true 3 f fd ["self","trails","worth"] (qH ay aI):=by
 refine F.gH lr Wa (fun bV A outer s H vs Q E hr h hX=>?_)
 ·obtain⟨x,dx,tr,W,rfl,_⟩:=h;rfl
 ·obtain⟨x,dx,tr,W,rfl,hx,q⟩:=h;refine⟨_,(OA (Zg K V7 (pv 1)) (OA (Zg K V7 (pv 2)) (OA (Zg K V7 (@Fn _ _ _ _ _ _ _ _ _ _ _ mB (hr.mono ZO) hX.pass (XR) (Nn))) (Lw (Zg K V7 j1))))),?_⟩;refine⟨_,rfl,_,rfl,x,ay,dx,_,rfl,hx,Hc.cl,Hc.tS,Nn,?_⟩;refine⟨_,rfl,_,rfl,x,ay,dx,_,rfl,ae,Hc.cl,Hc.worth,by have:=aW "trails" (.ref tr) [];simp at this;lia,?_⟩;rw[fZ];refine fun g dg hg QO cG=>?_
  have Pf:x≠g:=fun z=>by rw[←z,ae]at hg;cases hg
  have Tr:x≠dg:=fun z=>by rw[←z,ae]at QO;cases QO
  have Pg:H g=none:=by rw[aj (WR Pf)]at hg;exact hg
  have Ph:H dg=none:=by rw[aj (WR Tr)]at QO;exact QO
  refine⟨g,dg,rfl,ae,fun H1 S1 yf Ts G1=>⟨rfl,?_⟩⟩;have keep:∀b o,b≠x→H b=some o→H1 b=some o:=fun b o hb e=>yf b o (aC e Pg) (by rw[aj (aC e Pg),aj (aC e Ph),aj hb];exact e)
  have lp:H1 x=some (.ins ay dx (bp "worth" (.int W) (bp "trails" (.ref tr) []))):=yf x _ Pf (by rw[aj Pf,aj Tr];exact ae);have l2:(bp "worth" (.int W) (bp "trails" (.ref tr) [])).length≤2:=by
   have:=aW "trails" (.ref tr) [];have:=aW "worth" (.int W) (bp "trails" (.ref tr) []);simp at*;lia
  refine⟨_,rfl,x,ay,dx,_,rfl,lp,Hc.cl,Hc.groups,by lia,?_⟩;refine fun dk QP=>?_
  have MU:x≠dk:=fun z=>by rw[←z,ae]at QP;cases QP
  have Ge:H1 dk=none:=by rw[aj (WR MU)]at QP;exact QP
  have Tt:H dk=none:=by
   cases e:H dk with
   |none=>rfl
   |some o=>rw[keep dk o (WR MU) e]at Ge;cases Ge
  refine⟨_,rfl,x,ay,dx,_,rfl,by rw[aj MU];exact ae,Hc.cl,Hc.marks,by have:=aW "groups" (.ref g) (bp "worth" (.int W) (bp "trails" (.ref tr) []));lia,?_⟩;rw[LU];have QR:¬S1 x:=fun z=>by
   have:=Ts x z;rw[aj Pf,aj Tr,ae]at this;cases this
  have Yj:¬S1 g:=fun z=>by
   have:=Ts g z;rw[ae]at this;cases this
  have G2:=G1.nt;have fin:∀b o,b≠x→H1 b=some o→upd (upd (upd H1 x (.ins ay dx (bp "groups" (.ref g) (bp "worth" (.int W) (bp "trails" (.ref tr) []))))) dk (.dT [])) x (.ins ay dx (jR tr W g dk)) b=some o:=fun b o hb e=>by
   rw[aj hb,aj (aC e Ge),aj hb];exact e
  have Tu:¬(S1 dk∧NT H1 dk):=fun z=>by
   obtain⟨o,e,_⟩:=z.2;rw[Ge]at e;cases e
  refine q _ (fun a=>(S1 a∧NT H1 a)∨a=dk) (fun b o hb e=>fin b o hb (keep b o hb e)) (fun a ha=>?_) ⟨dx,g,dk,[],fun a=>S1 a∧NT H1 a,ae,G2.keep (fun a o hs e=>fin a o (fun z=>QR (by rw[←z];exact hs.1)) e) (fun b v hb=>fin b _ (fun z=>by rw[z,lp]at hb;cases hb) hb) (fun o e=>fin g o (WR Pf) e),by rw[aj (WR MU),ae],fun c=>rfl,Nat.le_refl _,fun a=>Iff.rfl,Tu,fun z=>z.elim (fun y=>QR y.1) MU,fun z=>z.elim (fun y=>Yj y.1) (fun y=>?_),fun a ha=>?_⟩
  ·rcases ha with ha|ha
   ·have:=Ts a ha.1;cases e:H a with
    |none=>rfl
    |some o=>rw[aj (aC e Pg),aj (aC e Ph),aj (fun z=>QR (by rw[←z];exact ha.1)),e]at this;cases this
   ·rw[ha];exact Tt
  ·obtain⟨aax,dl,dm,kl,HV,ld,mm,og,_⟩:=G1;rw[y,Ge]at og;cases og
  ·rcases ha with⟨h1,o,h2,h3⟩|ha
   ·exact⟨o,fin a o (fun z=>QR (by rw[←z];exact h1)) h2,h3⟩
   ·exact⟨_,by rw[ha,aj (WR MU),ae],fun v=>(IM)⟩
variable(cQ:eE P w K mg base true 1 aI "unite" ["self","pair","other"] (tQ aI))
theorem ph:aL ["self","crossing","pair"] ["self","crossing","pair"] (au fu):=⟨rfl,rfl,rfl,by decide+kernel,rfl,by decide+kernel,by decide+kernel⟩
include T Hc cQ in
theorem pj{f:Addr}{fd:FuncData}(F:iu K "mark" "Gathering.mark" fu f fd):aZ P w K mg base (dz P w) true 2 f fd ["self","crossing","pair"] (tT ay aI):=by
 refine F.gH ph Wa (fun bV A outer s H vs Q E hr h hX=>?_)
 ·obtain⟨x,tc,tp,tr,W,c,r,S,s1,B,M,rfl,_⟩:=h;rfl
 ·obtain⟨x,tc,tp,tr,W,c,r,S,s1,B,M,rfl,G,hc,hp,LQ,h0,hB,hM,q⟩:=h;have hu:=hr.units;have hu:(A.deeper (Zp "Gathering.mark" (au fu) f bV)).units+1<cLine:=by lia
  refine⟨_,(Lw (Yh (Z' (@qm _ _ _ _ _ hu Rl (ZY K))) (Lw (Y_ (Υ cQ aR (Χ (Ν hu Rl (fun _ _=>rfl)))))) (Lw (@ku _ _ _ _ _ _ _ _ _ hu (ZY K) (pv 1) (pv 2) (by exact rfl))))),?_⟩;obtain⟨dx,g,dk,km,S1,D⟩:=id G;refine⟨_,rfl,_,rfl,x,ay,dx,_,_,rfl,D.ob,Hc.cl,Hc.marks,lK tr W g dk,dk,_,rfl, .t (k:=a8 c) D.hk hc,_,rfl,?_⟩;have mv:=D.mv c;cases e:s1.2 c with
  |none=>
   rw[e]at mv;have mv:bu km (a8 c)=none:=mv;rw[mv];refine gM ?_;have hl:=D.len;refine⟨_,rfl,_,rfl,x,ay,dx,_,_,rfl,D.ob,Hc.cl,Hc.marks,lK tr W g dk,_,rfl,dk,_,rfl, .t (k:=a8 c) D.hk hc (a_ D9),?_⟩;obtain⟨u,D'⟩:=D.put (c:=c) hp;refine q _ S u ⟨dx,g,dk,putK km (a8 c) (.ref tp),S1,?_⟩;unfold y4;rw[e];exact D'
  |some r0=>
   rw[e]at mv;obtain⟨t0,v0,Yk⟩:=mv;rw[v0];refine jO ?_;obtain⟨dg,dl,dm,kl,HV,ld,mm,og,_⟩:=id D.gr;refine⟨_,rfl,x,ay,dx,_,_,rfl,D.ob,Hc.cl,Hc.groups,i4 tr W g dk,g,dg,_,rfl,og,BJ dl dm,_,rfl,x,ay,dx,_,_,rfl,D.ob,Hc.cl,Hc.marks,lK tr W g dk,_,rfl,dk,_,rfl,by have:=jZ.t (k:=a8 c) D.hk hc;rw[v0]at this;exact this,_,rfl,g,t0,tp,r0,r,S1,s1.1,B,rfl,D.gr,Yk,hp,h0 r0 e,LQ,hB,fun H' u G'=>?_⟩;obtain⟨S',S2,u2,D2⟩:=D.Qz u G';refine q _ S' u2 ⟨dx,g,dk,km,S2,?_⟩;unfold y4;rw[e];exact⟨D2.ob,D2.gr,D2.hk,D2.mv,by have:=D2.len;lia,D2.sS,D2.BK,D2.nx,D2.ng,D2.nt⟩
variable(cb:eE P w K mg base true 1 aI "take_in" ["self","pair"] (xg aI))
variable(cc:eE P w K mg base true 2 ay "mark" ["self","crossing","pair"] (tT ay aI))
theorem fh:aL ["self","crossing","pair","later","before"] ["self","crossing","pair"] (au dF):=⟨rfl,rfl,rfl,by decide+kernel,rfl,by decide+kernel,by decide+kernel⟩
include T bg aX Hc cQ cb cc in
theorem lU{f:Addr}{fd:FuncData}(F:iu K "go_over" "Gathering.go_over" dF f fd):aZ P w K mg base (dz P w) true 3 f fd ["self","crossing","pair"] (tU ay aI az):=by
 refine F.gH fh Wa (fun bV A outer s H vs Q E hr h hX=>?_)
 ·obtain⟨x,tc,tp,tr,dt,e,b,es,bs,f,o,p,n,m,W,i,j,r,S,s1,B,M,H0,rfl,_⟩:=h;rfl
 ·obtain⟨x,tc,tp,tr,dt,e,b,es,bs,f1,o,p,n,m,W,i,j,r,S,s1,B,M,H0,rfl,G,TR,BA,hc,hp,hi,hj,TP,OK,hs,hB,hM,q⟩:=h;have hu:=hr.units;have hu:(A.deeper (Zp "Gathering.go_over" (au dF) f bV)).units+1<cLine:=by lia
  refine⟨_,(UN (ZS (3) fh.nd (Ν hu Rl (fun _ _=>rfl))) (UN (Yh (ZR (Υ bg aR (Χ Rl))) (UN (Y_ (Υ cb aR (ZU W4))) (Lw (Y_ (Υ cQ aR (zr W4))))) aQ) (Lw (Z5 (ZH K (Υ aX aR (ZU Rl))) (ZT (4) fh.nd) (Lw (Y_ (Ζ V7 cc aR (zr Xr)))))))),?_⟩;obtain⟨dx,g,dk,km,S1,D⟩:=id G;obtain⟨tl,vl,yZ⟩:∃tl,bu km (a8 (aP (i+1,j+1)))=some (.ref tl)∧H tl=some (.tup (iE r)):=by have:=D.mv (aP (i+1,j+1));rw[hs]at this;exact this
  obtain⟨MF,i2,j2,e2,OV⟩:=OK.mr _ _ hs;obtain⟨rfl,rfl⟩:=iL e2;refine⟨fun σ H1=>H1=H∧σ=[sR x,sR tc,sR tp,sR tl,none],⟨_,rfl,x,ay,dx,_,_,rfl,D.ob,Hc.cl,Hc.marks,lK tr W g dk,_,rfl,dk,_,rfl,by have:=jZ.t (k:=a8 (aP (i+1,j+1))) D.hk hc;rw[vl]at this;exact this,rfl,rfl⟩,?_⟩;rintro σ H1 ⟨rfl,rfl⟩;have T1:=TR.keep BA.same;refine⟨fun σ H2=>σ=[sR x,sR tc,sR tp,sR tl,none]∧∃S',oV S H1 S' H2∧ij H2 ay aI x tr W S' (Jw f1 o p i j s1 r) (B+1) M,?_,?_⟩
  ·refine⟨_,rfl,x,ay,dx,_,_,rfl,D.ob,Hc.cl,Hc.tS,mq tr W g dk,tr,dt,_,rfl,T1.ob,Jt o p e b,_,rfl,_,rfl,tr,dt,e,b,es,bs,f1,o,p,n,m,tc,tp,i+1,j+1,i,j,rfl,T1,hc,hp,by lia,by lia,hi,hj,_,rfl,?_⟩;unfold Jw;refine ba (fun hh=>?_) (fun hh=>?_)
   ·have hh:=of_decide_eq_true hh;rw[HB hh];refine⟨fun σ H2=>σ=[sR x,sR tc,sR tp,sR tl,none]∧∃S',oV S H1 S' H2∧ij H2 ay aI x tr W S' (Jv s1.1 ZD,s1.2) (B+1) M,?_,?_⟩
    ·obtain⟨dg,dl,dm,kl,HV,ld,mm,og,_⟩:=id D.gr;refine⟨_,rfl,x,ay,dx,_,_,rfl,D.ob,Hc.cl,Hc.groups,i4 tr W g dk,g,dg,_,rfl,og,Fq dl dm,_,rfl,g,tp,aP (i,j),S1,s1.1,B,rfl,D.gr,hp,by lia,fun H' LW u G'=>?_⟩;obtain⟨S',S2,u2,D2⟩:=D.Qz u G';exact⟨rfl,S',u2,dx,g,dk,km,S2,D2⟩
    rintro σ H2 ⟨rfl,S',u2,G2⟩;obtain⟨QS,g2,QT,HV,S2,D2⟩:=id G2;have T:=u2.cA G.nt;obtain⟨dg,dl,dm,kl,abd,ld,mm,og,_⟩:=id D2.gr;refine⟨_,rfl,x,ay,QS,_,_,rfl,D2.ob,Hc.cl,Hc.groups,i4 tr W g2 QT,g2,dg,_,rfl,og,BJ dl dm,_,rfl,_,rfl,g2,tp,tl,aP (i,j),r,S2,_,B+1,rfl,D2.gr,T _ _ hp,T _ _ yZ, .inr ⟨rfl,rfl⟩, .inl MF,by lia,fun H' u G'=>?_⟩;obtain⟨Qv,S3,u3,D3⟩:=D2.Qz u G';exact⟨rfl,Qv,u2.trans u3,QS,g2,QT,HV,S3,D3⟩
   ·have hh:¬dD f1 o p i j=Bq f1 o p (i+1) (j+1):=fun z=>hh (Zn z)
    rw[Dt hh];exact⟨rfl,S, .same (.refl _),G.cast rfl (by lia) (Nat.le_refl _)⟩
  rintro σ H2 ⟨rfl,S2,u2,G2⟩;obtain⟨Yl,VA,_⟩:=Fx TP OK MF OV;have B0:=BA.ups u2;have T2:=TR.keep B0.same;have TT:=u2.cA G.nt;obtain⟨QS,g2,QT,HV,S3,D2⟩:=id G2;refine⟨_,rfl,x,ay,QS,_,_,rfl,D2.ob,Hc.cl,Hc.tS,mq tr W g2 QT,tr,dt,_,rfl,T2.ob,BH o p e b,_,rfl,tr,dt,e,b,es,bs,f1,o,p,n,m,tc,i,j,rfl,T2,TT _ _ hc,hi,hj,fun H3 rr us s3 rD xr P3=>?_⟩;refine⟨rr,rfl,⟨_, .of xr⟩,?_⟩;have hlen:(bq f1 o p i j).length≤2:=by
   unfold bq;rw[List.length_append];split<;>split<;>simp
  have Ym:=rC TP OV;refine bW (xs:=us) (fun k σ H4=>(∃w,σ=[sR x,sR tc,sR tp,sR tl,w])∧∃S4,oV S H1 S4 H4∧ij H4 ay aI x tr W S4 (((bq f1 o p i j).take k).foldl (fun s c=>y4 s c r) (Jw f1 o p i j s1 r)) (B+1) (M+k)∧H4 rr=some (.lst us)∧fK H4 us (bq f1 o p i j)∧¬S4 rr∧H4 tl=some (.tup (iE r))) ?_ ?_ ?_ ?_
  ·have G3:=G2.same s3;refine⟨⟨_,rfl⟩,S2,u2.trans (.same s3),G3.cast Mi (Nat.le_refl _) (Nat.le_refl _),xr,P3,G2.out rD,s3 _ _ (TT _ _ yZ)⟩
  ·rintro k σ H4 _ ⟨_,S4,_,_,h4,_⟩;exact .of h4
  ·rintro k v σ H4 hv ⟨⟨w,rfl⟩,S4,u4,G4,h4,P4,n4,t4⟩;have hk:k<(bq f1 o p i j).length:=by rw[←P4.1];exact(ZX hv).1
   have ek:(bq f1 o p i j)[k]?=some (bq f1 o p i j)[k]:=by simp[hk]
   have ja:(bq f1 o p i j)[k]∈bq f1 o p i j:=Zq hk;generalize (bq f1 o p i j)[k]=c at ek ja;obtain⟨t,k1,k2⟩:=P4.2 k c ek;rw[hv]at k1;cases k1;obtain⟨Yn,Yo,_⟩:=tR TP ((bq f1 o p i j).take k) _ Yl (VA.e _ _ MF) (fun c hc=>Ym c (ui hc));obtain⟨Yp,g4,Yq,abb,S5,D4⟩:=id G4;refine⟨_,rfl,x,Yp,_,rfl,D4.ob,BO tr W g4 Yq,_,rfl,_,rfl,x,t,tl,tr,W,c,r,S4,_,B+1,M+k,rfl,G4,k2,t4,Yo.e _ _ (VA.e _ _ MF),fun r0 h=>(Yn.mr _ _ h).1,by lia,by lia,fun H5 S6 u5 G5=>?_⟩;have T5:=u5.cA G4.nt;refine⟨⟨_,rfl⟩,S6,u4.trans u5,G5.cast ?_ YH (by lia),u5.keep rr _ n4 h4,P4.cA T5,u5.out n4 h4,T5 _ _ t4⟩;rw[List.take_succ,ek];simp
  ·rintro σ H4 ⟨⟨w,rfl⟩,S4,u4,G4,h4,P4,n4,t4⟩;refine q _ S4 u4 (G4.cast ?_ YH (by have:=P4.1;lia));rw[P4.1,List.take_length];rfl
variable(iQ:eE P w K mg base true 1 aI "has" ["self","pair"] (Av aI))
variable(dG:eE P w K mg base true 3 ay "go_over" ["self","crossing","pair"] (tU ay aI az))
theorem fS:aL ["self","i","j","pair","behind"] ["self","i","j"] (au eL):=⟨rfl,rfl,rfl,by decide+kernel,rfl,by decide+kernel,by decide+kernel⟩
include T Rc b_ Hc cb cc iQ dG in
theorem nV{f:Addr}{fd:FuncData}(F:iu K "visit" "Gathering.visit" eL f fd):aZ P w K mg base (dz P w) true 4 f fd ["self","i","j"] (qI ay aI az):=by
 refine F.gH fS Wa (fun bV A outer s H vs Q E hr h hX=>?_)
 ·obtain⟨x,tr,dt,e,b,es,bs,f,o,p,n,m,W,i,j,S,s1,B,M,H0,rfl,_⟩:=h;rfl
 ·obtain⟨x,tr,dt,e,b,es,bs,f1,o,p,n,m,W,i,j,S,s1,B,M,H0,rfl,G,TR,BA,hi,hj,hn,hm,TP,OK,hB,hM,q⟩:=h;have hu:=hr.units;have hu:(A.deeper (Zp "Gathering.visit" (au eL) f bV)).units+1<cLine:=by lia
  refine⟨_,(UN (ZS (3) fS.nd (Zm (Χ Rl))) (UN (ZS (4) fS.nd (Zm (Z1 (Z2 bC Rl ai) (ZU (Z2 bC W4 ai))))) (UN (Yh (Y7 jn (Z0 (Z0 (Zx K (ZY K)) (pv 1)) (pv 2)) (ZY K)) (Lw (Y_ (Υ cb aR (ZU W5)))) aQ) (UN (Yh (Z' (@qm _ _ _ _ _ hu Xr (ZY K))) (Lw (Y_ (Ζ V7 dG aR (zr Xr)))) aQ) (Lw (Yh (Zj (@pw_and _ _ _ _ _ _ _ (ZR (Υ iQ aR (ZU W5))) (@pw_and1 _ _ _ _ (ZR (Υ b_ aR (ZU W5)))))) (Lw (Y_ (Ζ V7 cc aR (zr W5)))) aQ)))))),?_⟩;refine⟨fun σ H1=>∃t,σ=[sR x,sI i,sI j,sR t,none]∧av H H1∧H1 t=some (.tup (iE ZD)),⟨_,rfl,_,rfl,aD Mi,fun t ht=>⟨t,rfl,UO ht,ae⟩⟩,?_⟩;rintro σ H1 ⟨t,rfl,s2,ht⟩;refine⟨fun σ H2=>∃u,σ=[sR x,sI i,sI j,sR t,sR u]∧av H1 H2∧H2 u=some (.tup (iE (aP (i+1,j+1)))),⟨_,rfl,_,_,rfl,rfl,_,rfl,_,_,rfl,rfl,aD Mi,fun u hu=>⟨u,rfl,UO hu,ae⟩⟩,?_⟩;rintro σ H2 ⟨u,rfl,s3,Qu⟩;have uD:=s3 _ _ ht;have Iu:=s2.trans s3;have G2:=G.same Iu;have B0:=BA.more Iu;have T2:=TR.keep B0.same;obtain⟨rb,g1,g2,g3⟩:=T2.te.at hi;refine⟨fun σ H3=>σ=[sR x,sI i,sI j,sR t,sR u]∧∃S',oV S H2 S' H3∧ij H3 ay aI x tr W S' (HS f1 o p W i j s1) (B+1) M,?_,?_⟩
  ·obtain⟨dx,g,dk,km,S1,D⟩:=id G2;refine⟨_,rfl,x,ay,dx,_,_,rfl,D.ob,Hc.cl,Hc.tS,mq tr W g dk,tr,az,dt,_,_,rfl,T2.ob,Rc.cl,Rc.kE,ie o p e b,_,rfl,e,_,_,_,rfl,rfl, .of T2.he,ar g2,_,rfl,rb,_,_,_,rfl,rfl, .of g3,ar (de hj),_,rfl,x,ay,dx,_,_,rfl,D.ob,Hc.cl,Hc.worth,FH tr W g dk,?_⟩;have JH:decide (bB (dD f1 o p i j)=V.int W)=decide (dD f1 o p i j=some W):=by cases dD f1 o p i j<;>simp[bB]
   refine⟨by cases dD f1 o p i j<;>rfl,_,rfl,?_⟩;rw[JH];unfold HS;refine ba (fun hh=>?_) (fun hh=>?_)
   ·have hh:=of_decide_eq_true hh;rw[HB hh];obtain⟨dg,dl,dm,kl,HV,ld,mm,og,_⟩:=id D.gr;refine⟨_,rfl,x,ay,dx,_,_,rfl,D.ob,Hc.cl,Hc.groups,i4 tr W g dk,g,dg,_,rfl,og,Fq dl dm,_,rfl,g,t,aP (i,j),S1,s1.1,B,rfl,D.gr,uD,by lia,fun H' LW u G'=>?_⟩;obtain⟨S',S2,u2,D2⟩:=D.Qz u G';exact⟨rfl,S',u2,dx,g,dk,km,S2,D2⟩
   ·have hh:¬dD f1 o p i j=some W:=fun z=>hh (Zn z)
    rw[Dt hh];exact⟨rfl,S, .same (.refl _),G2.cast rfl (by lia) (Nat.le_refl _)⟩
  rintro σ H3 ⟨rfl,S3,u3,G3⟩;have QU:=u3.cA G2.nt;have Iv:=B0.ups u3;obtain⟨Yr,GW1,_⟩:=Fy OK i j;refine⟨fun σ H4=>σ=[sR x,sI i,sI j,sR t,sR u]∧∃S',oV S3 H3 S' H4∧ij H4 ay aI x tr W S' (DE f1 o p W i j s1) (B+2) (M+2),?_,?_⟩
  ·obtain⟨dx,g,dk,km,S1,D⟩:=id G3;refine⟨_,rfl,_,rfl,x,ay,dx,_,_,rfl,D.ob,Hc.cl,Hc.marks,lK tr W g dk,dk,_,rfl, .t (k:=a8 (aP (i+1,j+1))) D.hk (QU _ _ Qu),_,rfl,?_⟩;have mv:=D.mv (aP (i+1,j+1));have ee:(HS f1 o p W i j s1).2=s1.2:=rfl;rw[ee]at mv;unfold DE;cases e9:s1.2 (aP (i+1,j+1))with
   |none=>
    rw[e9]at mv;have mv:bu km (a8 (aP (i+1,j+1)))=none:=mv;rw[mv];refine gM ?_;exact⟨rfl,S3, .same (.refl _),G3.cast rfl (by lia) (by lia)⟩
   |some r=>
    rw[e9]at mv;obtain⟨tl,vl,yZ⟩:=mv;rw[vl];refine jO ?_;exact⟨_,rfl,x,dx,_,rfl,D.ob,HU tr W g dk,_,rfl,_,rfl,x,u,t,tr,dt,e,b,es,bs,f1,o,p,n,m,W,i,j,r,S3,_,B+1,M,H0,rfl,G3,TR,Iv,QU _ _ Qu,QU _ _ uD,hi,hj,TP,Yr,e9,by lia,by lia,fun H' S' u G'=>⟨rfl,S',u,G'⟩⟩
  rintro σ H4 ⟨rfl,S4,u4,G4⟩;have Ys:=u4.cA G3.nt;have Yt:=Iv.ups u4;have T4:=TR.keep Yt.same;have QV:=Ys _ _ (QU _ _ uD);obtain⟨Yu,GW2,_⟩:=Fz TP OK i j;have uu:oV S H S4 H4:=(oV.same Iu).trans (u3.trans u4);obtain⟨dx,g,dk,km,S1,D⟩:=id G4;obtain⟨dg,dl,dm,kl,HV,ld,mm,og,_⟩:=id D.gr;refine⟨_,rfl,x,ay,dx,_,_,rfl,D.ob,Hc.cl,Hc.groups,i4 tr W g dk,g,dg,_,rfl,og,OE dl dm,_,rfl,g,t,aP (i,j),S1,_,B+2,rfl,D.gr,QV,fun b1 jT=>?_⟩;refine⟨_,rfl,?_⟩;refine ba (fun hh=>?_) (fun hh=>?_)
  ·refine⟨_,rfl,x,ay,dx,_,_,rfl,D.ob,Hc.cl,Hc.tS,mq tr W g dk,tr,dt,_,rfl,T4.ob,Fo o p e b,_,rfl,tr,dt,e,b,es,bs,f1,o,p,n,m,t,i,j,rfl,T4,QV,by lia,by lia,_,rfl,?_⟩;refine ba (fun h2=>?_) (fun h2=>?_)
   ·have oe:=jT.mp hh;refine⟨_,rfl,x,dx,_,rfl,D.ob,BO tr W g dk,_,rfl,_,rfl,x,t,t,tr,W,aP (i,j),aP (i,j),S4,_,B+2,M+2,rfl,G4,QV,QV,oe,fun r0 h=>(Yu.mr _ _ h).1,by lia,by lia,fun H5 S5 u5 G5=>?_⟩;refine q _ S5 (uu.trans u5) ?_;unfold zB;rw[HB ⟨oe,h2⟩];exact G5
   ·refine q _ S4 uu (G4.cast ?_ D9 (by lia));unfold zB;rw[Dt (fun z=>h2 z.2)]
  ·refine gM ?_;refine q _ S4 uu (G4.cast ?_ D9 (by lia));unfold zB;rw[Dt (fun z=>hh (jT.mpr z.1))]
variable(iR:mS P w K mg base true 3 "Gathering" ay ["self","trails","worth"] [] (qH ay aI))
variable(eP:eE P w K mg base true 4 ay "visit" ["self","i","j"] (qI ay aI az))
variable(g9:eE P w K mg base true 1 aI "told" ["self"] (xh aI))
theorem gj:aL ["trails","worth","gathering","i","j"] ["trails","worth"] (au jS):=⟨rfl,rfl,rfl,by decide+kernel,rfl,by decide+kernel,by decide+kernel⟩
include T Rc Hc iR eP g9 in
theorem ub{f:Addr}{fd:FuncData}(F:jN K "best_groups" "best_groups" jS f fd):aZ P w K mg base (dz P w) true 5 f fd ["trails","worth"] (Ay az):=by
 refine F.gH gj Wa (fun bV A outer s H vs Q E hr h hX=>?_)
 ·obtain⟨tr,dt,e,b,es,bs,f,o,p,n,m,W,rfl,_⟩:=h;rfl
 ·obtain⟨tr,dt,e,b,es,bs,f1,o,p,n,m,W,rfl,TR,IT,VB,hn,hm,TP,q⟩:=h;refine⟨_,(UN (ZS (2) gj.nd (ξ iR (hr.mono ZO) hX.pass (Z1 V7 (ZU Rl)))) (UN (Z5 (@vS _ _ _ _ _ _ _ _ (by exact rfl) T.fJ (Z1 (Z2 bI (ZW (aJ K) (ZU (ZY K))) ai) (Z1 (@mP _ _ _ _ _ _ jM ai) (ZU (@mP _ _ _ _ _ _ jM ai)))) (XR) (XR)) (ZT (3) gj.nd) (Lw (Z5 (@vS _ _ _ _ _ _ _ _ (by exact rfl) T.fJ (Z1 (Z2 bI (ZW (aJ K) (ZU (Ξ W5))) ai) (Z1 (@mP _ _ _ _ _ _ jM ai) (ZU (@mP _ _ _ _ _ _ jM ai)))) (XR) (XR)) (ZT (4) gj.nd) (Lw (Y_ (Ζ W4 eP aR (Z1 W5 (ZU Xr)))))))) (Lw (X' (@Ct _ _ _ _ _ _ _ _ _ _ _ _ _ (Zx K W4) g9 (hr.mono ZO) aR (XR)))))),?_⟩;refine⟨fun σ H1=>∃gx S,σ=[sR tr,sI W,sR gx,none,none]∧Base H H1 S∧ij H1 ay aI gx tr W S (fun _ _=>False,fun _=>none) 0 0,?_,?_⟩
  ·refine⟨_,rfl,_,rfl,fun y dy hy L3 cG=>⟨y,dy,tr,W,rfl,ae,fun H' S sb fr G=>⟨rfl,y,S,rfl,⟨SameBut.Ac hy L3 sb,fun a ha=>?_⟩,G⟩⟩⟩;have:=fr a ha;cases e9:H a with
   |none=>rfl
   |some o9=>rw[aj (aC e9 hy),aj (aC e9 L3),e9]at this;cases this
  rintro σ H1 ⟨gx,S,rfl,BA,G⟩;have Il:es.length=n:=TR.te.1;have V0:=Vd.start f1 o p W n m;refine⟨fun σ H2=>(∃u v,σ=[sR tr,sI W,sR gx,u,v])∧∃S s B M,Base H H2 S∧ij H2 ay aI gx tr W S s B M∧Vd f1 o p W (Vb n m 0 0) s∧B≤6000,?_,?_⟩
  ·have T1:=TR.keep BA.same;refine⟨_,rfl,tr,az,dt,_,_,rfl,T1.ob,Rc.cl,Rc.kE,ie o p e b,e,_,rfl, .inl (.of T1.he),_,_,rfl,rfl,_,rfl,_,rfl,_,_,rfl,⟨by rw[List.length_map,Il];lia,by rw[List.length_map,Il];lia,Nn,Nn⟩,?_⟩;have en:((((es.map V.ref).length:Nat):Int)-1- -1).toNat=n:=by rw[List.length_map,Il];lia
   rw[en];refine yV (fun k σ H2=>(∃u v,σ=[sR tr,sI W,sR gx,u,v])∧∃S s B M,Base H H2 S∧ij H2 ay aI gx tr W S s B M∧Vd f1 o p W (Vb n m (n-k) 0) s∧B≤2*(k*m)∧M≤3*(k*m)) ⟨⟨_,_,rfl⟩,S,_,0,0,BA,G,V0,by lia,by lia⟩ ?_ ?_
   ·rintro k σ H2 hk ⟨⟨u,v,rfl⟩,S2,s2,B,M,B0,G2,V2,hB,hM⟩;have ei:(((es.map V.ref).length:Nat):Int)-1-(k:Int)=((n-1-k:Nat):Int):=by rw[List.length_map,Il];lia
    rw[ei];have T2:=TR.keep B0.same;obtain⟨rb,g1,g2,g3⟩:=T2.te.at (show n-1-k<n by lia);have V2:Vd f1 o p W (Vb n m (n-1-k) m) s2:=Vd.turn (by rw[show n-1-k+1=n-k by lia];exact V2);have aao:(k+1)*m≤n*m:=Nat.mul_le_mul_right m D9;have aag:(k+1)*m=k*m+m:=Nat.succ_mul k m;have lm:∀g:Nat→Option Int,(c7 m g).length=m:=fun g=>by simp[c7]
    refine⟨_,rfl,tr,az,dt,_,_,rfl,T2.ob,Rc.cl,Rc.kE,ie o p e b,_,rfl,e,_,_,_,rfl,rfl, .of T2.he,ar g2,rb,_,rfl, .inl (.of g3),_,_,rfl,rfl,_,rfl,_,rfl,_,_,rfl,⟨by rw[lm];lia,by rw[lm];lia,Nn,Nn⟩,?_⟩;have Yv:((((c7 m (dD f1 o p (n-1-k))).length:Nat):Int)-1- -1).toNat=m:=by rw[lm];lia
    rw[Yv];refine yV (fun l σ H3=>(∃v,σ=[sR tr,sI W,sR gx,sI (((n-1-k:Nat):Int)),v])∧∃S s B M,Base H H3 S∧ij H3 ay aI gx tr W S s B M∧Vd f1 o p W (Vb n m (n-1-k) (m-l)) s∧B≤2*(k*m+l)∧M≤3*(k*m+l)) ⟨⟨_,rfl⟩,S2,s2,B,M,B0,G2,V2,hB,hM⟩ ?_ ?_
    ·rintro l σ H3 hl ⟨⟨v3,rfl⟩,S3,s3,B3,M3,Iv,G3,V3,Yw,Yx⟩;have ej:(((c7 m (dD f1 o p (n-1-k))).length:Nat):Int)-1-(l:Int)=((m-1-l:Nat):Int):=by rw[lm];lia
     rw[ej];obtain⟨dx,g,dk,km,S1,D⟩:=id G3;have V3:Vd f1 o p W (Vb n m (n-1-k) (m-1-l+1)) s3:=by rw[show m-1-l+1=m-l by lia];exact V3
     refine⟨_,rfl,gx,dx,_,rfl,D.ob,FI tr W g dk,_,rfl,_,rfl,gx,tr,dt,e,b,es,bs,f1,o,p,n,m,W,n-1-k,m-1-l,S3,s3,B3,M3,H,rfl,G3,TR,Iv,by lia,by lia,hn,hm,TP,V3.ok,by lia,by lia,fun H4 S4 u4 G4=>?_⟩;refine⟨⟨_,rfl⟩,S4,_,_,_,Iv.ups u4,G4,?_,by lia,by lia⟩;have:=V3.next TP (show n-1-k<n by lia) (show m-1-l<m by lia);rw[show m-(l+1)=m-1-l by lia];exact this
    ·rintro σ H3 ⟨⟨v3,rfl⟩,S3,s3,B3,M3,Iv,G3,V3,Yw,Yx⟩;refine⟨⟨_,_,rfl⟩,S3,s3,B3,M3,Iv,G3,?_,by lia,by lia⟩;rw[show n-(k+1)=n-1-k by lia,show(0:Nat)=m-m by lia];exact V3
   ·rintro σ H2 ⟨⟨u,v,rfl⟩,S2,s2,B,M,B0,G2,V2,hB,hM⟩;rw[Nat.sub_self]at V2;exact⟨⟨_,_,rfl⟩,S2,s2,B,M,B0,G2,V2,by lia⟩
  rintro σ H2 ⟨⟨u,v,rfl⟩,S2,s2,B,M,B0,G2,V2,hB⟩;obtain⟨dx,g,dk,km,S1,D⟩:=id G2;obtain⟨dg,dl,dm,kl,HV,ld,mm,og,_⟩:=id D.gr;have HG:=fun a b=>V2.FG TP IT a b
  refine⟨_,rfl,gx,ay,dx,_,_,rfl,D.ob,Hc.cl,Hc.groups,i4 tr W g dk,g,dg,_,rfl,og,LN dl dm,g,S1,_,B,rfl,D.gr,by lia,fun H3 r us gs u3 rD xr W3 Mo TD=>?_⟩;have Iv:Base H H2 S1:=⟨B0.same,fun a h=>B0.free a ((D.sS a).mpr (.inl h))⟩
  exact q _ r us gs (Iv.ups u3).same (B0.same.free rD) xr W3 (fun k a h=>B0.same.free (Mo k a h)) (TD.iff HG)
theorem nW:aL ["taken","shut","pair"] ["taken"] (au mz):=⟨rfl,rfl,rfl,by decide+kernel,rfl,by decide+kernel,by decide+kernel⟩
include T in
theorem AL{f:Addr}{fd:FuncData}(F:jN K "shut_by" "shut_by" mz f fd):aZ P w K mg base (dz P w) true 1 f fd ["taken"] wZ:=by
 refine F.gH nW Wa (fun bV A outer s H vs Q E hr h hX=>?_)
 ·obtain⟨v,shut,rfl,_⟩:=h;rfl
 ·obtain⟨v,shut,rfl,TV,hlen,q⟩:=h;have hu:=hr.units;have hu:(A.deeper (Zp "shut_by" (au mz) f bV)).units+1<cLine:=by lia
  refine⟨_,(OA (ZS (1) nW.nd j1) (UN (Yh (Z' (@ot _ _ _ _ _ (pv 0))) (Lw (Z5 (ZH K V7) (ZT (2) nW.nd) (Lw (@ku _ _ _ _ _ _ _ _ _ hu Rl (pv 2) eI ZE)))) aQ) (Lw (X' Rl)))),?_⟩;refine fun d hd=>?_
  refine⟨fun σ H1=>(∃u,σ=[some v,sR d,u])∧av H H1∧∃kvs,H1 d=some (.dT kvs)∧mW kvs shut,?_,?_⟩
  ·refine⟨_,rfl,_,rfl,?_⟩;rcases TV with⟨rfl,rfl⟩|⟨l,us,rfl,hl,P1⟩
   ·refine ba (fun hh=>Zy hh) (fun _=>?_);exact⟨⟨_,rfl⟩,UO hd,[],ae,fun p=>by simp[sT]⟩
   ·refine ba (fun _=>?_) (fun hh=>absurd Mi hh);have Io:=P1.1;refine⟨_,rfl,l,rfl,⟨_, .of (av.upd hd _ _ hl)⟩,?_⟩;refine bW (xs:=us) (fun i σ H'=>(∃u,σ=[sR l,sR d,u])∧av H H'∧∃kvs,H' d=some (.dT kvs)∧kvs.length≤i∧mW kvs (shut.take i)) ?_ ?_ ?_ ?_
    ·exact⟨⟨_,rfl⟩,UO hd,[],ae,Nat.le_refl _,fun p=>by simp[sT]⟩
    ·rintro i σ H' _ ⟨_,s1,_⟩;exact .of (s1 _ _ hl)
    ·rintro i x σ H' hx ⟨⟨u,rfl⟩,s1,kvs,hD,hk,hS⟩;have hi:i<shut.length:=by rw[←Io];exact(ZX hx).1
     obtain⟨t,ye,uD⟩:=P1.K5 hi;rw[hx]at ye;cases ye;refine⟨_,rfl,_,rfl,d,_,rfl, .t (k:=a8 (pr shut i)) hD (s1 _ _ uD) (a_ D9),⟨_,rfl⟩,s1.eR hd,_,ae,ZN (eV _ _ _) (by lia),fun p=>?_⟩;have e1:shut.take (i+1)=shut.take i++[pr shut i]:=by rw[List.take_succ,Ji hi];rfl
     rw[i7,e1];by_cases hp:p=pr shut i
     ·rw[HB (by rw[hp])];simp[hp]
     ·rw[Dt (fun z=>hp ?_),hS p]
      ·simp[hp]
      ·simp only[a8,List.cons.injEq,Sum.inl.injEq,and_true]at z;exact Prod.ext z.1 z.2
    ·rintro σ H' ⟨⟨u,rfl⟩,s1,kvs,hD,_,hS⟩;rw[Io,List.take_length]at hS;exact⟨⟨_,rfl⟩,s1,kvs,hD,hS⟩
  rintro σ H1 ⟨⟨u,rfl⟩,s1,kvs,hD,hS⟩;exact⟨_,rfl,q H1 d kvs s1 hD hS⟩
variable(mC:bM P w K mg base true 1 "shut_by" ["taken"] wZ)
variable(d8:eE P w K mg base true 1 aU "pair_worth" ["self","x","y"] (wN aU))
theorem dN:aL ["first","second","terms","taken","shut","worths","i","x","row"] ["first","second","terms","taken"] (au fC):=⟨rfl,rfl,rfl,by decide+kernel,rfl,by decide+kernel,by decide+kernel⟩
include T Tc mC d8 in
theorem uc{f:Addr}{fd:FuncData}(F:jN K "open_worths" "open_worths" fC f fd):aZ P w K mg base (dz P w) true 2 f fd ["first","second","terms","taken"] (tW aU):=by
 refine F.gH dN Wa (fun bV A outer s H vs Q E hr h hX=>?_)
 ·obtain⟨f,g,t,v,c,shut,rfl,_⟩:=h;rfl
 ·obtain⟨f1,g,t,v,c,shut,rfl,hf,hg,TF,TV,RS,SJ,Vz,q⟩:=h;have hu:=hr.units;have hu:(A.deeper (Zp "open_worths" (au fC) f bV)).units+1<cLine:=by lia
  have lx:(c.xs.map V.str).length=c.xs.length:=List.length_map ..;have ly:(c.ys.map V.str).length=c.ys.length:=List.length_map ..;refine⟨_,(UN (δ (4) dN.nd (Or.inr rfl) (ZV mC aR (ZU W5))) (UN (ZS (5) dN.nd (ZC af)) (UN (Z5 (@oO _ K _ _ _ _ _ _ _ (by exact rfl) T.jq (ZU V7) (XR) (XR)) (Β K (2) (ZG (@aK _ _ (6) _ dN.nd ZE (Or.inr rfl) (by first|exact .inl rfl|exact .inr rfl|assumption)) (ZG (@aK _ _ (7) _ dN.nd ZE (Or.inr rfl) (by first|exact .inl rfl|exact .inr rfl|assumption)) fF))) (UN (@oJ _ _ _ _ _ _ _ _ _ _ _ _ _ _ _ (8) _ _ (by exact rfl) dN.nd ZE (by exact rfl) (show bh ["first","second","terms","taken","shut","worths","i","x","row"] (au fC) _ ["j","y"] [6,4,2,7] ["i","shut","terms","x"]from⟨rfl,by decide+kernel,by decide+kernel,by decide+kernel,rfl,rfl,by decide+kernel,by decide+kernel,by decide+kernel⟩) (@oO _ K _ _ _ _ _ _ _ (by exact rfl) T.jq (ZU Rl) (XR) (XR)) (fun _ _ _ _ _=>(Β K (2) (ZG (ZT (0) (show(["j","y","i","shut","terms","x"]:List Str).Nodup by decide+kernel)) (ZG (ZT (1) (show(["j","y","i","shut","terms","x"]:List Str).Nodup by decide+kernel)) fF)))) (fun _ _ _ _ _=>f7) (fun _ _ _ _ _=>(@ow _ _ _ _ _ _ _ _ (Z' (@qm _ _ _ _ _ hu (Zm (Z1 W4 (ZU V7))) (pv 3))) jL (Ζ Xr d8 aR (Z1 (pv 5) (ZU Rl))))) (XR) (by intro _;rfl)) (Lw (Y_ (ZZ K bR (pv 5) (ZU (pv 8))))))) (Lw (X' (pv 5)))))),?_⟩;refine⟨fun σ H1=>∃d kvs,σ=[sR f1,sR g,sR t,some v,sR d,none,none,none,none]∧av H H1∧H1 d=some (.dT kvs)∧mW kvs shut,?_,?_⟩
  ·exact⟨_,rfl,v,shut,rfl,TV,RS,fun H1 d kvs s1 hd hS=>⟨d,kvs,rfl,s1,hd,hS⟩⟩
  rintro σ H1 ⟨d,kvs,rfl,s1,Yy,hS⟩;refine⟨fun σ H2=>∃e,σ=[sR f1,sR g,sR t,some v,sR d,sR e,none,none,none]∧av H1 H2∧H1 e=none∧H2 e=some (.lst []),?_,?_⟩
  ·exact⟨aD Mi,fun e he=>⟨e,rfl,UO he,he,ae⟩⟩
  rintro σ H2 ⟨e,rfl,s2,JE,MK⟩;refine⟨fun σ H3=>(∃u1 u2 u3,σ=[sR f1,sR g,sR t,some v,sR d,sR e,u1,u2,u3])∧av H1 H3∧∃as:List Addr,H3 e=some (.lst (as.map V.ref))∧i_ H3 as (iz c shut) c.xs.length c.ys.length∧(∀a∈as,H1 a=none∧a≠e)∧as.Nodup,?_,?_⟩
  ·refine⟨_,rfl,f1,rfl,⟨_, .of (s2 _ _ (s1 _ _ hf))⟩,?_⟩;refine yC (xs:=c.xs.map V.str) (fun i σ H'=>(∃u1 u2 u3,σ=[sR f1,sR g,sR t,some v,sR d,sR e,u1,u2,u3])∧av H1 H'∧∃as:List Addr,H' e=some (.lst (as.map V.ref))∧i_ H' as (iz c shut) i c.ys.length∧(∀a∈as,H1 a=none∧a≠e)∧as.Nodup) ?_ ?_ ?_ ?_
   ·exact⟨⟨_,_,_,rfl⟩,s2,[],MK,⟨rfl,fun i a h=>by simp at h⟩,(fun a h=>by cases h), .nil⟩
   ·rintro i σ H' _ ⟨_,s3,_⟩;exact .of (s3 _ _ (s1 _ _ hf))
   ·rintro i x T' σ H' hx ⟨⟨u1,u2,u3,rfl⟩,s3,as,GA,TA,hn,Gx⟩ hT;obtain⟨wx,QW,rfl⟩:=mf hx;have hi:i<c.xs.length:=(ZX QW).1;have s4:av H1 (upd H' T' (.tup [.int i, .str wx])):=s3.trans (UO hT);have QX:=av.upd (o:= .tup [.int i, .str wx]) hT _ _ GA;have QY:=TA.same (av.upd (o:= .tup [.int i, .str wx]) hT);refine⟨T',_,rfl, .of ae,rfl,_,_,rfl,_,_,rfl,rfl,?_⟩;generalize upd H' T' (.tup [.int i, .str wx])=H4 at s4 QX QY;clear TA GA s3 hT;refine⟨fun σ H5=>∃r,σ=[sR f1,sR g,sR t,some v,sR d,sR e,sI i,sS wx,sR r]∧av H4 H5∧H4 r=none∧H5 r=some (.lst (c7 c.ys.length (iz c shut i))),?_,?_⟩
    ·have VC:=s4 _ _ (s1 _ _ hg);refine⟨_,rfl,g,rfl,⟨_, .of VC⟩,fun D hD=>?_⟩;refine vN (xs:=c.ys.map V.str) (fun j ys bx H5=>(∃w1 w2,bx=[w1,w2,sI i,sR d,sR t,sS wx])∧ys=c7 j (iz c shut i)∧H5 D=some (.lst ys)∧av H4 H5) ⟨⟨_,_,rfl⟩,rfl,ae,UO hD⟩ ?_ ?_ ?_
     ·rintro j ys bx H5 _ ⟨_,_,_,s5⟩;exact .of (s5 _ _ VC)
     ·rintro j y T2 ys bx H5 hy ⟨⟨w1,w2,rfl⟩,rfl,GC,s5⟩ O6;obtain⟨wy,DI,rfl⟩:=mf hy;have hj:j<c.ys.length:=(ZX DI).1;have s6:av H4 (upd H5 T2 (.tup [.int j, .str wy])):=s5.trans (UO O6);have Pj:=av.upd (o:= .tup [.int j, .str wy]) O6 _ _ GC;refine⟨T2,_,rfl, .of ae,rfl,_,_,rfl,_,_,rfl,rfl,?_⟩;generalize upd H5 T2 (.tup [.int j, .str wy])=H6 at s6 Pj;refine sr ?_;refine⟨_,rfl,_,rfl,aD Mi,fun p hp=>?_⟩;have s7:=s6.trans (av.upd (o:= .tup [.int (i:Int), .int (j:Int)]) hp);have sA:=s4.trans s7;have DJ:=av.upd (o:= .tup [.int (i:Int), .int (j:Int)]) hp _ _ Pj;have len:(c7 j (iz c shut i)).length<sizeLine:=a_ (by rw[c_];lia);have sn:∀u,u=iz c shut i j→c7 j (iz c shut i)++[bB u]=c7 (j+1) (iz c shut i):=fun u e=>by rw[qw,e]
      have Tv:c.pw ((i:Int),(j:Int))=cY c.same c.fs wx wy:=Case.pw_of (by rw[tw];exact QW) (by rw[tw];exact DI);refine⟨_,rfl,d,_,rfl, .t (k:=a8 ((i:Int),(j:Int))) (sA _ _ Yy) ae,_,rfl,?_⟩;rw[hS];refine ba (fun h1=>?_) (fun h1=>?_)
      ·have h1:((i:Int),(j:Int))∈shut:=by simpa using h1
       refine⟨DJ,len,⟨_,_,rfl⟩,?_,ae,s7.eR hD⟩;exact sn none (by simp[iz,oh,h1])
      ·have h1:((i:Int),(j:Int))∉shut:=by simpa using h1
       obtain⟨n,dx,l,dd,vs,T1,e1,e2,e3,e4⟩:=(TF.keep s1).keep sA;refine⟨_,rfl,t,dx,_,rfl,T1.ob,wL n l dd,_,rfl,_,rfl,t,wx,wy,n,c.fs,dx,l,dd,vs,rfl,T1,fun H8 s8=>?_⟩;refine⟨s8 _ _ DJ,len,⟨_,_,rfl⟩,?_,ae,(s7.trans s8).eR hD⟩;exact sn _ (by simp[iz,oh,h1,Tv,e1])
     ·rintro ys bx H5 ⟨_,rfl,GC,s5⟩;rw[ly]at GC;exact⟨D,rfl,s5,hD,GC⟩
    rintro σ H5 ⟨r,rfl,s5,rD,Tw⟩;have VD:r≠e:=WR (aC QX rD);have hlen:=QY.len;refine⟨_,rfl, .inl ⟨rfl,_, .of (s5 _ _ QX)⟩,_,rfl,e,_,_,rfl,rfl,s5 _ _ QX,a_ (by rw[List.length_map];lia),⟨_,_,_,rfl⟩,(s4.trans s5).eR JE,as++[r],by rw[ae];simp,⟨by simp[hlen],fun k a hk=>?_⟩,fun a ha=>?_,List.nodup_append.mpr ⟨Gx,IM,fun x hx y hy e9=>?_⟩⟩
    ·by_cases h:k<i
     ·rw[ZA D9]at hk;rw[aj (hn a (WI hk)).2];exact s5 _ _ (QY.row k a hk)
     ·rw[ZF D9]at hk;have xa:k-as.length=0:=by
       have:=(ZX hk).1;simp at this
       lia
      rw[xa]at hk;have:r=a:=by simpa using hk
      subst this;rw[aj VD];have:k=i:=by lia
      rw[this];exact Tw
    ·rcases List.mem_append.mp ha with ha|ha
     ·exact hn a ha
     ·have:a=r:=by simpa using ha
      rw[this];exact⟨s4.free rD,VD⟩
    ·have hy:y=r:=by simpa using hy
     obtain⟨k,hk,ek⟩:=Α hx;have:=QY.row k x (by rw[ZQ hk,ek]);rw[e9,hy,rD]at this;cases this
   ·rintro σ H' ⟨⟨u1,u2,u3,rfl⟩,s3,as,GA,TA,hn,Gx⟩;rw[lx]at TA;exact⟨⟨_,_,_,rfl⟩,s3,as,GA,TA,hn,Gx⟩
  rintro σ H3 ⟨⟨u1,u2,u3,rfl⟩,s3,as,GA,TA,hn,Gx⟩;exact⟨_,rfl,q H3 e as (s1.trans s3) GA (s1.free JE) TA Gx (fun z=>(hn e z).2 rfl) fun a ha=>s1.free (hn a ha).1⟩
variable(mD:mS P w K mg base true 4 "Trails" az ["self","worths","terms"] [] (qE az aU))
variable(g_:bM P w K mg base true 5 "best_groups" ["trails","worth"] (Ay az))
variable(gk:bM P w K mg base true 6 "make_finding" ["trails","worth","pairs"] (Au az aA))
theorem jV:aL ["worths","terms","trails","worth"] ["worths","terms"] (au gf):=⟨rfl,rfl,rfl,by decide+kernel,rfl,by decide+kernel,by decide+kernel⟩
include T Tc fg Rc mD g_ gk in
theorem uP{f:Addr}{fd:FuncData}(F:jN K "make_round" "make_round" gf f fd):aZ P w K mg base (dz P w) true 7 f fd ["worths","terms"] (oZ aU aA):=by
 refine F.gH jV Wa (fun bV A outer s H vs Q E hr h hX=>?_)
 ·obtain⟨w,t,as,c,f,n,m,rfl,_⟩:=h;rfl
 ·obtain⟨w,t,as,c,f1,n,m,rfl,hw,TA,TF,IT,VB,hn,hm,q0,q1⟩:=h;refine⟨_,(UN (δ (2) jV.nd (Or.inr rfl) (ξ mD (hr.mono ZO) hX.pass (Z1 V7 (ZU Rl)))) (UN (δ (3) jV.nd (Or.inr rfl) (ZV fg aR (ZU (@jo _ _ _ _ _ _ _ _ _ _ _ _ _ _ (by exact rfl) (show bh ["worths","terms","trails","worth"] (au gf) _ ["row"] [] []from⟨rfl,by decide+kernel,by decide+kernel,by decide+kernel,rfl,rfl,by decide+kernel,by decide+kernel,by decide+kernel⟩) (ZH K (Zx K W4)) (fun _ _ _ _ _=>(ZT (0) (show(["row"]:List Str).Nodup by decide+kernel))) (fun _ _ _ _ _=>f7) (fun _ _ _ _ _=>(ZV fg aR (ZU V7))) (by intro _;rfl))))) (UN (Yh (Zj (Zi (Z' (@lB _ _ _ _ _ (pv 3))) (@pw_or1 _ _ _ _ (Y7 mQ W5 (Zx K Rl))))) (Lw (X' (ZC af))) aQ) (Lw (X' (@jo _ _ _ _ _ _ _ _ _ _ _ _ _ _ (by exact rfl) (show bh ["worths","terms","trails","worth"] (au gf) _ ["pairs"] [2,3] ["trails","worth"]from⟨rfl,by decide+kernel,by decide+kernel,by decide+kernel,rfl,rfl,by decide+kernel,by decide+kernel,by decide+kernel⟩) (ZH K (ZV g_ aR (zr W4))) (fun _ _ _ _ _=>(ZT (0) (show(["pairs","trails","worth"]:List Str).Nodup by decide+kernel))) (fun _ _ _ _ _=>f7) (fun _ _ _ _ _=>(ZV gk aR (Z1 Rl (Z1 W4 (ZU V7))))) (by intro _;rfl))))))),?_⟩;refine⟨fun σ H1=>∃x dx e b es,σ=[sR w,sR t,sR x,none]∧av H H1∧H1 x=some (.ins az dx (gI c.out c.into e b))∧H1 e=some (.lst (es.map V.ref))∧i_ H1 es (dD f1 c.out c.into) n m∧(0<n→∃bs,qD H1 az x dx e b es bs f1 c.out c.into n m),?_,?_⟩
  ·refine⟨_,rfl,_,rfl,fun x dx hx EJ cG=>?_⟩;have s5:av H (upd (upd H dx (.own x)) x (.ins az dx [])):=(UO EJ).eR hx;refine⟨x,dx,w,t,c,as,f1,n,m,rfl,ae,by rw[aj cG];exact ae,s5 _ _ hw,TA.same s5,TF.keep s5,hn,hm,fun H6 e b sb VE Te Tb=>?_⟩;obtain⟨es,he,_,TE,_⟩:=Te;refine⟨rfl,x,dx,e,b,es,rfl,SameBut.Ac hx EJ sb,VE,he,TE,fun h=>?_⟩;obtain⟨bs,hb,_,Yz,_⟩:=Tb h;exact⟨bs,VE,he,TE,hb,Yz⟩
  rintro σ H1 ⟨x,dx,e,b,es,rfl,s1,lp,AJ,TE,YA⟩;have Il:es.length=n:=TE.len;refine⟨fun σ H2=>σ=[sR w,sR t,sR x,some (bB (HX f1 c.out c.into n m))]∧av H1 H2,?_,?_⟩
  ·refine⟨_,rfl,x,az,dx,_,_,rfl,lp,Rc.cl,Rc.kE,ie c.out c.into e b,e,rfl,⟨_, .of AJ⟩,fun D hD=>?_⟩;refine fV (xs:=es.map V.ref) (fun k ys bx H'=>(∃u,bx=[u])∧ys=((X_ k).map fun i=>bB (oP ((X_ m).map (dD f1 c.out c.into i))))∧H' D=some (.lst ys)∧av H1 H') ⟨⟨_,rfl⟩,rfl,ae,UO hD⟩ ?_ ?_ ?_
   ·rintro k ys bx H' _ ⟨_,_,_,s2⟩;exact .of (s2 _ _ AJ)
   ·rintro k v ys bx H' hv ⟨⟨u,rfl⟩,rfl,rT,s2⟩;have hk:k<n:=by rw[←Il];have:=(ZX hv).1;simpa using this
    obtain⟨rb,g1,g2,g3⟩:=TE.at hk;rw[hv]at g2;cases g2;refine nq ?_;refine⟨_,rfl,rb,(X_ m).map (dD f1 c.out c.into k),rfl,?_,by simpa using hm,fun Qw s3=>?_⟩
    ·rw[s2 _ _ g3,List.map_map];rfl
    ·refine⟨s3 _ _ rT,a_ Zc,⟨_,rfl⟩,?_,ae,(s2.trans s3).eR hD⟩;rw[List.range_succ,List.map_append];rfl
   ·rintro ys bx H' ⟨_,rfl,rT,s2⟩;rw[List.length_map,Il]at rT;refine⟨D,(X_ n).map fun i=>oP ((X_ m).map (dD f1 c.out c.into i)),rfl,by rw[rT,List.map_map];rfl,by simpa using hn,fun Qw s3=>⟨rfl,s2.trans s3⟩⟩
  rintro σ H2 ⟨rfl,s2⟩;have JN:=s1.trans s2;obtain⟨nu,dt,l,d,vs,TM,z1,z2,z3,z4⟩:=TF.keep JN;have MX:=FO IT c.out c.into;refine⟨fun σ H3=>∃W,HX f1 c.out c.into n m=some W∧c.least≤W∧σ=[sR w,sR t,sR x,sI W]∧H3=H2,?_,?_⟩
  ·refine⟨_,rfl,_,rfl,?_⟩;cases eT:HX f1 c.out c.into n m with
   |none=>
    rw[eT]at MX;refine jO ?_;refine jO ?_;exact⟨aD Mi,fun r rD=>q0 (fun ps hp=>V' ⟨ps,hp,rfl⟩ (MX _)) _ r (JN.trans (UO rD)) (JN.free rD) ae⟩
   |some W=>
    rw[eT]at MX;refine ba Τ (fun _=>?_);refine⟨_,rfl,_,rfl,t,aU,dt,_,_,rfl,TM.ob,Tc.cl,Tc.least,Hk nu l d,_,_,rfl,rfl,_,rfl,?_⟩;refine ba (fun hh=>?_) (fun hh=>?_)
    ·have hh:W<nu.least:=by simpa using hh
     rw[z4]at hh;exact⟨aD Mi,fun r rD=>q0 (fun ps hp=>by have:=MX.2 _ ⟨ps,hp,rfl⟩;lia) _ r (JN.trans (UO rD)) (JN.free rD) ae⟩
    ·have hh:¬W<nu.least:=by simpa using hh
     rw[z4]at hh;exact⟨W,rfl,by lia,rfl,rfl⟩
  rintro σ H2 ⟨W,eT,hle,rfl,rfl⟩;rw[eT]at MX;obtain⟨VF,w0,VG⟩:=MX.1;have TP:eZ f1 c.out c.into W:=fun ps hp=>MX.2 _ ⟨ps,hp,rfl⟩
  have Tg:0<n:=by
   obtain⟨i,j,_,hi,_⟩:=jQ IT w0 (cR w0.ne)
   lia
  obtain⟨bs,TR⟩:=YA Tg;have VH:=TR.keep s2;refine⟨_,rfl,_,rfl,x,dx,e,b,es,bs,f1,c.out,c.into,n,m,W,rfl,VH,IT,VB,hn,hm,TP,fun H3 r us gs s3 rD xr W3 Mo TD=>?_⟩;have Iw:∀g∈gs,∀a∈g,∃i j:Nat,a=aP (i,j)∧i<n∧j<m:=fun g hg a ha=>by
   obtain⟨ps,wp,hm⟩:=(TD.mem hg ha).on;exact jQ IT wp.1 hm
  have ql:∀g∈gs,g.length≤n*m:=fun g hg=>by
   have:=len_sub g (uK n m) ((TD.qB g hg).imp fun{a b} h e=>by
    rw[e]at h;unfold ip at h;simp at h) fun a ha=>by
    obtain⟨i,j,rfl,hi,hj⟩:=Iw g hg a ha;exact oY hi hj
   rw[oX]at this;exact this
  have Ed:=TD.uB Iw;have Tx:gs≠[]:=fun z=>by
   obtain⟨i,j,h1,_⟩:=jQ IT w0 (cR w0.ne);obtain⟨g,hg,_⟩:=TD.all _ (fB.way VF ⟨w0,VG.symm⟩ (cR w0.ne) (cR w0.ne));rw[z]at hg;cases hg
  have hW:=W3.1;refine⟨r,rfl,⟨_, .of xr⟩,fun D hD=>?_⟩;refine fV (xs:=us) (fun k ys bx H'=>(∃u,bx=[u,sR x,sI W])∧H' D=some (.lst ys)∧av H3 H'∧∃ds,cx (fun b=>H2 b=none∧b≠D) H' aA ys ds∧ds.map Fd.pairs=gs.take k∧∀d∈ds,OL f1 c.out c.into W d) ⟨⟨_,rfl⟩,ae,UO hD,[], .nil,rfl,fun d h=>(by cases h)⟩ ?_ ?_ ?_
  ·rintro k ys bx H' _ ⟨_,_,s4,_⟩;exact .of (s4 _ _ xr)
  ·rintro k v ys bx H' hv ⟨⟨u,rfl⟩,JO,s4,ds,F4,Pk,bU⟩;have hk:k<gs.length:=by rw[←hW];exact(ZX hv).1
   have ek:gs[k]?=some gs[k]:=by simp[hk]
   have ja:gs[k]∈gs:=Zq hk;generalize gs[k]=g at ek ja;obtain⟨pa,VI,k1,k2,k3⟩:=W3.2 k g ek;rw[hv]at k1;cases k1;have Tz:=Mo k pa hv;have Pl:pa≠D:=fun z=>by rw[z,hD]at k2;cases k2
   obtain⟨gn,Pn⟩:∃gn:List (Nat×Nat),g=gn.map aP:=by
    refine⟨g.map fun a=>(a.1.toNat,a.2.toNat),?_⟩;rw[List.map_map]
    conv=>lhs;rw[←List.map_id g]
    apply List.map_congr_left;intro a ha;obtain⟨i,j,rfl,_⟩:=Iw g ja a ha;simp[aP]
   obtain⟨i0,j0,z5,z6,z7,z8⟩:∃i j:Nat,dD f1 c.out c.into i j=some W∧i<n∧j<m∧aP (i,j)∈g:=by
    obtain⟨a,ha⟩:=List.exists_mem_of_ne_nil _ (TD.ne g ja);obtain⟨i,j,h1,h2,h3,h4⟩:=CZ TP IT (TD.mem ja ha);exact⟨i,j,h1,h2,h3,(TD.cls g ja a ha _).mpr h4⟩
   have TC:gn.filter (fun q=>decide (dD f1 c.out c.into q.1 q.2=some W))≠[]:=fun z=>by
    rw[Pn]at z8;obtain⟨q9,YB,e9⟩:=Zt z8;obtain⟨YC,YD⟩:=iL (a:=q9.1) (b:=q9.2) e9;have:q9∈gn.filter (fun q=>decide (dD f1 c.out c.into q.1 q.2=some W)):=List.mem_filter.mpr ⟨YB,by rw[YC,YD];simpa using z5⟩;rw[z]at this;cases this
   obtain⟨ud,F8⟩:∃q0,(gn.filter fun q=>decide (dD f1 c.out c.into q.1 q.2=some W))[0]?=some q0:=by
    cases e9:gn.filter (fun q=>decide (dD f1 c.out c.into q.1 q.2=some W))with
    |nil=>exact V' e9 TC
    |cons a r=>exact⟨a,rfl⟩
   have Po:=List.mem_filter.mp (WI F8);have TK:dD f1 c.out c.into ud.1 ud.2=some W:=by simpa using Po.2
   have YE:=VH.keep (s3.trans s4);refine nq ?_;refine⟨_,rfl,_,rfl,_,rfl,x,dx,e,b,es,bs,f1,c.out,c.into,n,m,W,pa,VI,gn,ud,rfl,YE,s4 _ _ k2,by rw[←Pn];exact k3.same s4,fun q hq=>?_,F8,hn,?_,fun H5 y dy wy rw iq s5 hy L3 DI TL YF abC TN P5 Tw=>?_⟩
   ·have:aP q∈g:=by rw[Pn];exact List.mem_map.mpr ⟨q,hq,rfl⟩
    obtain⟨i,j,h1,h2,h3⟩:=Iw g ja _ this;obtain⟨h4,h5⟩:=iL (a:=q.1) (b:=q.2) h1
    lia
   ·have:=ql g ja;rw[Pn,List.length_map]at this
    lia
   ·obtain⟨v1,v2,v3,v4⟩:=HW f1 c.out c.into ud.1 ud.1 ud.2 W YH TK;have aaj:=F4.1;have abe:ds.length=k:=by
     have:=congrArg List.length Pk;rw[List.length_map,List.length_take]at this
     lia
    have nD:∀{z},H' z=none→z≠D:=fun h z=>by rw[z,JO]at h;cases h
    have TQ:av H2 H':=s3.trans s4;refine⟨s5 _ _ JO,a_ D9,⟨_,rfl⟩,ae,(s4.trans s5).eR hD,ds++[⟨W,(eG f1 c.out c.into ud.1 ud.1 ud.2).map aP,zD (lf f1) c.out c.into ((eG f1 c.out c.into ud.1 ud.1 ud.2).map aP),g⟩],?_,?_,fun d hd=>?_⟩
    ·refine cx.append (F4.keep (fun b o hb e=>by rw[aj hb.2];exact s5 _ _ e) (fun a v e=>by rw[aj (fun z=>by rw[z,JO]at e;cases e)];exact s5 _ _ e) fun _ h=>h) ⟨rfl,fun k9 d9 e9=>?_⟩;have YI:k9=0:=by
      have:=(ZX e9).1;simp at this
      lia
     subst YI;have e9:=(WK e9).symm;subst e9;have T5:cO H5 (upd H5 D (.lst (ys++[.ref y]))):=cO.lst (s5 _ _ JO);refine⟨y,dy,wy,rw,pa,iq,VI,rfl,⟨by rw[aj (nD hy)];exact YF,by rw[aj (nD DI)];exact TN,P5.cA T5,?_,by rw[aj Pl];exact s5 _ _ (s4 _ _ k2),((k3.same s4).same s5).cA T5,⟨TQ.free hy,nD hy⟩,⟨TQ.free DI,nD DI⟩,⟨TQ.free TL,nD TL⟩,⟨Tz,Pl⟩⟩⟩;rw[aj (nD TL),Tw]
     congr 2
     have:=congrArg (List.map bB) v4;rw[List.map_map,List.map_map]at this;exact this
    ·rw[List.map_append,Pk,List.take_succ,ek];rfl
    ·rcases List.mem_append.mp hd with hd|hd
     ·exact bU d hd
     ·have:d=⟨W,(eG f1 c.out c.into ud.1 ud.1 ud.2).map aP,zD (lf f1) c.out c.into ((eG f1 c.out c.into ud.1 ud.1 ud.2).map aP),g⟩:=by simpa using hd
      subst this;refine⟨rfl,⟨v1,v3⟩,rfl,fun q hq=>?_⟩;have Pg:aP ud∈g:=by rw[Pn];exact qV ⟨_,Po.1,rfl⟩
      have v2:lstP ((eG f1 c.out c.into ud.1 ud.1 ud.2).map aP)=aP ud:=v2;exact(TD.cls g ja _ Pg q).mpr (.way _ ⟨v1,v3⟩ (by rw[←v2];exact cR v1.ne) hq)
  ·rintro ys bx H' ⟨_,JO,s4,ds,F4,Pk,bU⟩;rw[hW,List.take_length]at Pk;have sA:=JN.trans (s3.trans s4);exact q1 W gs ds ⟨TP,⟨VF,w0,VG.symm⟩,hle,TD,Pk,bU⟩ Tx _ D ys sA ((JN.trans s3).free hD) JO (F4.keep (fun _ _ _ h=>h) (fun _ _ h=>h) fun b hb=>JN.free hb.1)
theorem hG:aL ["worths","findings","finding","i","j"] ["worths","findings"] (au kJ):=⟨rfl,rfl,rfl,by decide+kernel,rfl,by decide+kernel,by decide+kernel⟩
include T Fc in
theorem uQ{f:Addr}{fd:FuncData}(F:jN K "shut_pairs" "shut_pairs" kJ f fd):aZ P w K mg base (dz P w) true 1 f fd ["worths","findings"] (tX aA):=by
 refine F.gH hG Wa (fun bV A outer s H vs Q E hr h hX=>?_)
 ·obtain⟨w,md,as,us,ds,f,n,m,rfl,_⟩:=h;rfl
 ·obtain⟨w,md,as,us,ds,f1,n,m,rfl,hw,Oy,nw,TA,VJ,YJ,FL,oe,q⟩:=h;refine⟨_,(Lw (Z5 (ZH K Rl) (ZT (2) hG.nd) (Lw (Z5 (ZH K (Zx K W4)) (Β K (2) (ZG (ZT (3) hG.nd) (ZG (ZT (4) hG.nd) fF))) (Lw (@zH _ _ _ _ _ _ jL (@Kd _ _ _ _ _ _ _ (Z6 W5) (pv 4) set_list (by intro _;rfl)) (XR) (XR) (XR))))))),?_⟩;have rows:∀a∈as,∃xs,H a=some (.lst xs):=fun a ha=>by
   obtain⟨k,hk,ek⟩:=Α ha;exact⟨_,TA.row k a (by rw[ZQ hk,ek])⟩
  have cA:∀H',(∀b o,b∉as→H b=some o→H' b=some o)→cO H H':=fun H' k t v e=>k t _ (fun z=>by
   obtain⟨xs,h⟩:=rows t z;rw[e]at h;cases h) e
  have hlen:=FL.1;refine⟨_,rfl,md,rfl,⟨_, .of VJ⟩,?_⟩;refine bW (xs:=us) (fun k σ H1=>(∃u1 u2 u3,σ=[sR w,sR md,u1,u2,u3])∧(∀b o,b∉as→H b=some o→H1 b=some o)∧i_ H1 as (j9 f1 ((ds.take k).map Fd.pairs).flatten) n m) ⟨⟨_,_,_,rfl⟩,fun _ _ _ h=>h,TA⟩ ?_ ?_ ?_
  ·rintro k σ H1 _ ⟨_,k1,_⟩;exact .of (k1 _ _ YJ VJ)
  ·rintro k v σ H1 hv ⟨⟨u1,u2,u3,rfl⟩,k1,T1⟩;have hk:k<ds.length:=by rw[←hlen];exact(ZX hv).1
   have ek:ds[k]?=some ds[k]:=by simp[hk]
   have ja:ds[k]∈ds:=Zq hk;generalize ds[k]=d at ek ja;obtain⟨a,dy,wy,iY,pr,kG,iq,e1,F⟩:=FL.2 k d ek;rw[hv]at e1;cases e1;have vF:=F.pp.1;have et:((ds.take (k+1)).map Fd.pairs).flatten=((ds.take k).map Fd.pairs).flatten++d.pairs:=by
    rw[List.take_succ,ek,List.map_append,List.flatten_append];simp
   refine⟨_,rfl,a,aA,dy,_,_,rfl,k1 _ _ F.fa F.ob,Fc.cl,Fc.pairs,jb d.worth wy iY pr,pr,rfl,⟨_, .of (k1 _ _ F.fp F.hp)⟩,?_⟩;refine bW (xs:=iq) (fun l σ H2=>(∃u2 u3,σ=[sR w,sR md,sR a,u2,u3])∧(∀b o,b∉as→H b=some o→H2 b=some o)∧i_ H2 as (j9 f1 (((ds.take k).map Fd.pairs).flatten++d.pairs.take l)) n m) ⟨⟨_,_,rfl⟩,k1,by simpa using T1⟩ ?_ ?_ ?_
   ·rintro l σ H2 _ ⟨_,k2,_⟩;exact .of (k2 _ _ F.fp F.hp)
   ·rintro l v σ H2 L6 ⟨⟨v2,v3,rfl⟩,k2,T2⟩;have hl:l<d.pairs.length:=by rw[←vF];exact(ZX L6).1
    have el:d.pairs[l]?=some d.pairs[l]:=by simp[hl]
    have hq:=oe d ja d.pairs[l] (Zq hl);generalize d.pairs[l]=g at el hq;obtain⟨i,j,rfl,hi,hj⟩:=hq;obtain⟨t,g1,g2⟩:=F.pp.2 l _ el;rw[L6]at g1;cases g1;have kt:=cA H2 k2 _ _ g2;refine⟨t,_,rfl, .of kt,rfl,_,_,rfl,_,_,rfl,rfl,?_⟩;obtain⟨ra,r1,r2,r3⟩:=T2.at hi;have QG:ra∈as:=WI r1;refine⟨_,rfl,_,rfl,w,_,_,_,rfl,rfl, .of (k2 _ _ nw hw),ar r2,_,rfl,ra,_,_,j,rfl,rfl,r3,Hn (by rw[c_];exact hj),⟨_,_,rfl⟩,fun b o hb e=>?_,⟨T2.len,fun x b hb=>?_⟩⟩
    ·rw[aj (fun z=>hb (by rw[z];exact QG))];exact k2 b o hb e
    ·have VL:d.pairs.take (l+1)=d.pairs.take l++[aP (i,j)]:=by rw[List.take_succ,el];rfl
     by_cases e:b=ra
     ·have ex:x=i:=by
       obtain⟨h1,e1⟩:=ZX hb;obtain⟨h2,e2⟩:=ZX r1;exact(List.getElem_inj Oy).mp (by rw[e1,e2,e])
      subst ex e;rw[ae];show some (HO.lst ((c7 m _).set j (bB none)))=_;rw[ER]
      congr 2
      unfold c7;apply List.map_congr_left;intro y _;unfold j9;rw[VL,←List.append_assoc]
      congr 1
      dsimp only;by_cases ey:y=j
      ·subst ey;rw[if_pos rfl,if_pos Mi]
      ·rw[Dt ey];have:¬aP (x,y)=aP (x,j):=fun z=>ey (iL z).2
       simp[this]
     ·rw[aj e,T2.row x b hb]
      congr 2
      unfold c7;apply List.map_congr_left;intro y _;unfold j9;rw[VL,←List.append_assoc];have:¬aP (x,y)=aP (i,j):=fun z=>by
       have hk:=(iL z).1;subst hk;rw[r1]at hb;exact e (WK hb).symm
      simp[this]
   ·rintro σ H2 ⟨⟨v2,v3,rfl⟩,k2,T2⟩;rw[vF,List.take_length]at T2;exact⟨⟨_,_,_,rfl⟩,k2,by rw[et];exact T2⟩
  ·rintro σ H1 ⟨_,k1,T1⟩;rw[hlen,List.take_length]at T1;exact q H1 k1 (cA H1 k1) T1
variable(ed:DX mg "FINDINGS_MOST" (.int 20))
variable(hJ:bM P w K mg base true 2 "open_worths" ["first","second","terms","taken"] (tW aU))
variable(gm:bM P w K mg base true 7 "make_round" ["worths","terms"] (oZ aU aA))
variable(iS:bM P w K mg base true 1 "shut_pairs" ["worths","findings"] (tX aA))
variable(kR:bM P w K mg base true 1 "order_of" ["finding"] (tO aA))
variable(kh:Er K mg "TooMany" kb)
theorem jg:aL ["first","second","terms","worths","findings","made"] ["first","second","terms"] (au qL):=⟨rfl,rfl,rfl,by decide+kernel,rfl,by decide+kernel,by decide+kernel⟩
include T dM ed hJ gm iS kR kh in
theorem AM{f:Addr}{fd:FuncData}(F:jN K "compare" "compare" qL f fd):aZ P w K mg base (dz P w) true 8 f fd ["first","second","terms"] (xm aU aA kb):=by
 refine F.gH jg Wa (fun bV A outer s H vs Q E hr h hX=>?_)
 ·obtain⟨a,b,t,c,rfl,_⟩:=h;rfl
 ·obtain⟨a,b,t,c,rfl,ha,hb,TF,hx,hy,q1,q2⟩:=h;refine⟨_,(UN (ZS (3) jg.nd (ZV hJ aR (Z1 V7 (Z1 Rl (Z1 W4 (ZU jL)))))) (UN (ZS (4) jg.nd (ZC af)) (UN (ZS (5) jg.nd (ZV gm aR (Χ W5))) (UN (@sP _ _ _ _ _ _ hX.own (Y7 rl (ZW (aJ K) (ZU (pv 5))) ai) (UN (Y_ (@eX _ K _ _ _ _ _ _ _ _ _ _ _ PySem.F.plainAttrs_list PySem.F.slot_list_extend PySem.F.type_list_extend vE Xr (ZU (pv 5)) (XR) (XR) (XR) (XR) (XR) (XR))) (UN (Yh (Y7 rl (ZW (aJ K) (ZU Xr)) (Ω ed)) (Lw (ν hX ZE (by exact rfl) kh.m kh.e (ZU (@ma _ _ _ _ _ _ (@fq _ _ _ _ _ dR (@fq _ _ _ _ _ (@qo _ _ _ _ (Ω ed)) (@fq _ _ _ _ _ dR wF))))))) aQ) (UN (Y_ (ZV iS aR (Z1 W5 (ZU (pv 5))))) (Lw (ZS (5) jg.nd (ZV gm aR (Χ W5)))))))) (Lw (X' (@Fm _ K _ _ _ _ _ _ _ _ _ _ _ kR (hr.mono ZO) (pv 4) (by exact rfl) dM (XR) (Nn) (XR) (XR)))))))),?_⟩;have yQ:c.xs.length*c.ys.length≤3000:=Nat.le_trans (Nat.mul_le_mul hx hy) (Nn);have TU:=K_ c [];refine⟨fun σ H1=>∃w as,σ=[sR a,sR b,sR t,sR w,none,none]∧av H H1∧H1 w=some (.lst (as.map V.ref))∧i_ H1 as (iz c []) c.xs.length c.ys.length∧as.Nodup∧w∉as∧∀a∈as,H a=none,?_,?_⟩
  ·exact⟨_,rfl,_,rfl,_,rfl,a,b,t, .cJ,c,[],rfl,ha,hb,TF, .inl ⟨rfl,rfl⟩,IM,by lia,by lia,fun H1 w as s1 h1 _ h3 h4 h5 h6=>⟨w,as,rfl,s1,h1,h3,h4,h5,h6⟩⟩
  rintro σ H1 ⟨w,as,rfl,s1,rV,TX,Oy,nw,has⟩;refine⟨fun σ H2=>∃fl,σ=[sR a,sR b,sR t,sR w,sR fl,none]∧av H1 H2∧H1 fl=none∧H2 fl=some (.lst []),⟨aD Mi,fun fl h=>⟨fl,rfl,UO h,h,ae⟩⟩,?_⟩;rintro σ H2 ⟨fl,rfl,s2,L7,Pp⟩;have alloc:∀x∈as,∃xs,H1 x=some (.lst xs):=fun x hx=>by
   obtain⟨k,hk,ek⟩:=Α hx;exact⟨_,TX.row k x (by rw[ZQ hk,ek])⟩
  have VM:fl∉as:=fun z=>by
   obtain⟨xs,h⟩:=alloc fl z;rw[L7]at h;cases h
  have Iy:w≠fl:=aC rV L7;have rd:∀f H3,(∀x∈as,∃xs,H3 x=some (.lst xs))→H3 w=some (.lst (as.map V.ref))→i_ H3 as f c.xs.length c.ys.length→av H H3→∀done,Reach ZP c.out c.into c.least done f→∀(Q':VK)(E':XK),(∀H4 r,av H3 H4→H3 r=none→∀us ds,H4 r=some (.lst us)→cx (fun b=>H3 b=none) H4 aA us ds→((us=[]∧ds=[]∧Stop f c.out c.into c.least)∨(us≠[]∧∃W gs,jv f c.out c.into c.least W gs ds))→Q' (.ref r) H4)→oZ aU aA [.ref w, .ref t] H3 Q' E':=fun f H3 al h3 T3 s3 done RC Q' E' k=>by
   refine⟨w,t,as,c,f,_,_,rfl,h3,T3,TF.keep s3,RC.SS TU,yQ,by lia,by lia,fun st H4 r s4 h4 h5=>k H4 r s4 h4 [] [] h5 .nil (.inl ⟨rfl,rfl,st⟩),fun W gs ds R Tx H4 r us s4 h4 h5 FL=>k H4 r s4 h4 us ds h5 FL (.inr ⟨fun z=>Tx ?_,W,gs,R⟩)⟩;have:=FL.1;rw[z]at this;have:ds=[]:=List.length_eq_zero_iff.mp (by simpa using this.symm);rw[←R.FK,this];rfl
  have aap:∀b o,b∉as→b≠fl→H1 b=some o→H2 b=some o:=fun b o _ _ e=>s2 b o e
  have MV:=s1.trans s2;refine⟨fun σ H3=>∃md us ds,σ=[sR a,sR b,sR t,sR w,sR fl,sR md]∧av H2 H3∧H2 md=none∧H3 md=some (.lst us)∧cx (fun b=>H2 b=none) H3 aA us ds∧((us=[]∧ds=[]∧Stop ZP c.out c.into c.least)∨(us≠[]∧∃W gs,jv ZP c.out c.into c.least W gs ds)),?_,?_⟩
  ·exact⟨_,rfl,_,rfl,rd _ H2 (fun x hx=>let ⟨xs,h⟩:=alloc x hx;⟨xs,s2 _ _ h⟩) (s2 _ _ rV) (TX.same s2) MV [] .start _ _ fun H4 r s4 h4 us ds h5 FL z=>⟨r,us,ds,rfl,s4,h4,h5,FL,z⟩⟩
  rintro σ H3 ⟨md,us,ds,rfl,s3,IA,TY,YK,Z3⟩;refine⟨fun σ H5=>∃md ul es f,σ=[sR a,sR b,sR t,sR w,sR fl,sR md]∧av H H5∧H5 fl=some (.lst ul)∧cx (fun b=>H2 b=none) H5 aA ul es∧Reach ZP c.out c.into c.least es f∧Stop f c.out c.into c.least∧es.length≤20,?_,?_⟩
  ·refine⟨fun mm σ H4=>∃md us ds ul es f,mm+es.length=20∧σ=[sR a,sR b,sR t,sR w,sR fl,sR md]∧av H H4∧(∀b o,b∉as→b≠fl→H2 b=some o→H4 b=some o)∧i_ H4 as f c.xs.length c.ys.length∧H4 fl=some (.lst ul)∧cx (fun b=>H2 b=none) H4 aA ul es∧Reach ZP c.out c.into c.least es f∧H2 md=none∧H4 md=some (.lst us)∧cx (fun b=>H2 b=none) H4 aA us ds∧((us=[]∧ds=[]∧Stop f c.out c.into c.least)∨(us≠[]∧∃W gs,jv f c.out c.into c.least W gs ds)),⟨20,md,us,ds,[],[],iz c [],rfl,rfl,MV.trans s3,fun b o _ _ e=>s3 b o e,(TX.same s2).same s3,s3 _ _ Pp, .nil, .start,IA,TY,YK,Z3⟩,?_⟩;rintro mm σ H4 ⟨md,us,ds,ul,es,f1,aba,rfl,sH,k4,T4,IB,FE,RC,IA,L8,FD,Z4⟩;have YL:∀x∈as,∃xs,H2 x=some (.lst xs):=fun x hx=>let ⟨xs,h⟩:=alloc x hx;⟨xs,s2 _ _ h⟩
   have P2:∀{b},H2 b=none→b∉as:=fun{b} h z=>by
    obtain⟨xs,h'⟩:=YL b z;rw[h]at h';cases h'
   have T8:∀{b},H2 b=none→b≠fl:=fun{b} h z=>by rw[z,Pp]at h;cases h
   have QZ:=FE.1;have aaU:=FD.1;refine⟨_,rfl,md,_,rfl, .inl (.of L8),_,_,rfl,rfl,_,rfl,?_⟩;refine ba (fun hh=>?_) (fun hh=>?_)
   ·have hh:0<us.length:=by simpa using hh
    rcases Z4 with⟨z1,_,_⟩|⟨VO,W,gs,R⟩
    ·rw[z1]at hh;simp at hh
    have QJ:ds.length≤c.xs.length*c.ys.length:=by
     have:=R.told.uB (n:=c.xs.length) (m:=c.ys.length) fun g hg q hq=>by
      obtain⟨ps,wp,hm⟩:=(R.told.mem hg hq).on;exact jQ (RC.SS TU) wp.1 hm
     rw[←R.FK,List.length_map]at this;exact this
    refine⟨_,fun bx H' z=>z,?_⟩;have YM:md≠fl:=T8 IA;refine⟨fun σ H5=>σ=[sR a,sR b,sR t,sR w,sR fl,sR md]∧H5=upd H4 fl (.lst (ul++us)),⟨_,rfl, .inl ⟨rfl,_, .of IB⟩,_,rfl,fl,md,ul,us,rfl,rfl,IB,L8,aD D9,rfl,rfl⟩,?_⟩;rintro σ H5 ⟨rfl,rfl⟩;have VP:av H (upd H4 fl (.lst (ul++us))):=sH.eR (s1.free L7);have VQ:cO H4 (upd H4 fl (.lst (ul++us))):=cO.lst IB;have YN:cx (fun b=>H2 b=none) (upd H4 fl (.lst (ul++us))) aA ul es:=FE.keep (fun b o hb e=>by rw[aj (T8 hb)];exact e) VQ fun _ h=>h
    have VR:cx (fun b=>H2 b=none) (upd H4 fl (.lst (ul++us))) aA us ds:=FD.keep (fun b o hb e=>by rw[aj (T8 hb)];exact e) VQ fun _ h=>h
    have T9:=RC.round R;refine⟨fun σ H6=>σ=[sR a,sR b,sR t,sR w,sR fl,sR md]∧H6=upd H4 fl (.lst (ul++us))∧(es++ds).length≤20,?_,?_⟩
    ·refine⟨_,rfl,fl,_,rfl, .inl (.of ae),_,_,rfl,rfl,_,rfl,?_⟩;refine ba (fun h9=>?_) (fun h9=>?_)
     ·have h9:20<(ul++us).length:=by
       have:(20:Int)<((ul++us).length:Nat):=by simpa using h9
       lia
      have:=q2 _ _ T9 (by rw[List.length_append]at h9⊢;lia) _ VP;have z:(20:Int).natAbs.log2<1920∧(Zk (toString (20:Int))).length≤6:=⟨Nn,by decide+kernel⟩
      have w1:(Zk "there are at most ").length=18:=by decide+kernel
      have w2:(Zk " findings between two books").length=27:=by decide+kernel
      have w3:=me;refine⟨_,rfl,aD ?_, .inr ⟨20,rfl,z.1,_,rfl,aD ?_,_,rfl,aD ?_,aD ?_,ic,this⟩⟩;all_goals (simp only[len_app];lia)
     ·have h9:¬20<(ul++us).length:=by
       have:¬(20:Int)<((ul++us).length:Nat):=by simpa using h9
       lia
      exact⟨rfl,rfl,by rw[List.length_append]at h9⊢;lia⟩
    rintro σ H6 ⟨rfl,rfl,hle⟩;refine⟨fun σ H7=>σ=[sR a,sR b,sR t,sR w,sR fl,sR md]∧(∀b o,b∉as→upd H4 fl (.lst (ul++us)) b=some o→H7 b=some o)∧cO (upd H4 fl (.lst (ul++us))) H7∧i_ H7 as (j9 f1 gs.flatten) c.xs.length c.ys.length,?_,?_⟩
    ·refine⟨_,rfl,_,rfl,w,md,as,us,ds,f1,_,_,rfl,by rw[aj Iy];exact k4 _ _ nw Iy (s2 _ _ rV),Oy,nw,⟨T4.len,fun i x hx=>by rw[aj (fun z=>VM (by rw[←z];exact WI hx))];exact T4.row i x hx⟩,by rw[aj YM];exact L8,P2 IA,VR.keep (fun _ _ _ h=>h) (fun _ _ h=>h) (fun _ h=>P2 h),fun d hd q hq=>?_,fun H7 k7 t7 T7=>⟨rfl,k7,t7,by rw[←R.FK];exact T7⟩⟩;have hg:d.pairs∈gs:=by rw[←R.FK];exact qV ⟨d,hd,rfl⟩
     obtain⟨ps,wp,hm⟩:=(R.told.mem hg hq).on;exact jQ (RC.SS TU) wp.1 hm
    rintro σ H7 ⟨rfl,k7,t7,T7⟩;have VS:av H H7:=fun b o e=>k7 b o (fun z=>by rw[has b z]at e;cases e) (VP b o e)
    have VT:∀x∈as,∃xs,H7 x=some (.lst xs):=fun x hx=>by
     obtain⟨k,hk,ek⟩:=Α hx;exact⟨_,T7.row k x (by rw[ZQ hk,ek])⟩
    have w7:H7 w=some (.lst (as.map V.ref)):=k7 w _ nw (by rw[aj Iy];exact k4 _ _ nw Iy (s2 _ _ rV));have F7:cx (fun b=>H2 b=none) H7 aA (ul++us) (es++ds):=(YN.append VR).keep (fun b o hb e=>k7 b o (P2 hb) e) t7 fun _ h=>h
    have VU:H7 fl=some (.lst (ul++us)):=k7 fl _ VM ae;refine⟨_,rfl,_,rfl,rd _ H7 VT w7 T7 VS _ T9 _ _ fun H8 r s8 h8 YO YQ YR YS Z8=>?_⟩;have VV:∀b,H7 b=none→H2 b=none:=fun b h=>by
     cases e:H2 b with
     |none=>rfl
     |some o=>
      by_cases T_:b∈as
      ·obtain⟨xs,h'⟩:=VT b T_;rw[h]at h';cases h'
      ·by_cases Ua:b=fl
       ·rw[Ua,VU]at h;cases h
       ·rw[k7 b o T_ (by rw[aj Ua];exact k4 b o T_ Ua e)]at h;cases h
    refine⟨20-(es++ds).length,?_,r,YO,YQ,ul++us,es++ds,_,by lia,rfl,VS.trans s8,fun b o h1 h2 e=>s8 b o (k7 b o h1 (by rw[aj h2];exact k4 b o h1 h2 e)),T7.same s8,s8 _ _ VU,F7.keep (fun b o _ e=>s8 b o e) (cO.same s8) fun _ h=>h,T9,VV r h8,YR,YS.keep (fun _ _ _ h=>h) (fun _ _ h=>h) fun b h=>VV b h,Z8⟩;rw[List.length_append]at hle⊢
    lia
   ·have hh:us.length=0:=by
     have:¬(0:Int)<(us.length:Nat):=by simpa using hh
     lia
    rcases Z4 with⟨_,_,z3⟩|⟨VO,_⟩
    ·exact⟨md,ul,es,f1,rfl,sH,IB,FE,RC,z3,by lia⟩
    ·exact V' (List.length_eq_zero_iff.mp hh) VO
  rintro σ H5 ⟨md,ul,es,f1,rfl,sH,Ub,FE,RC,ST,hle⟩;have QZ:=FE.1;have AP:=RC.apart;have Pq:∀d∈es,gG d.pairs∈d.pairs:=fun d hd=>by
   cases e:d.pairs with
   |nil=>exact V' e (AP.qB d hd).2
   |cons a r=>simp[gG]
  refine⟨_,rfl,fl,ul,es.map (fun d=>(-d.worth,gG d.pairs)),rfl, .of Ub,by rw[List.length_map];lia,?_,by lia,fun i v H6 hv s6=>?_,fun p H6 D hp hs s6 hD Pj=>?_⟩
  ·refine List.pairwise_map.mpr (List.Pairwise.imp_of_mem (fun{x y} hx hy yQ e=>?_) AP.ap);have:=(Prod.mk.inj e).2;exact yQ _ (Pq x hx) (by rw[this];exact Pq y hy)
  ·have hi:i<es.length:=by rw[←QZ];exact(ZX hv).1
   have ei:es[i]?=some es[i]:=by simp[hi]
   have ja:es[i]∈es:=Zq hi;have eg:(es.map fun d=>(-d.worth,gG d.pairs)).getD i (0,(0,0))=(-es[i].worth,gG es[i].pairs):=by simp[hi]
   rw[eg];generalize es[i]=d at ei ja;obtain⟨x,dy,wy,iY,pr,kG,iq,e1,F⟩:=FE.2 i d ei;rw[hv]at e1;cases e1;exact⟨x,dy,wy,iY,pr,d.worth,iq,d.pairs,rfl,s6 _ _ F.ob,s6 _ _ F.hp,F.pp.same s6,(AP.qB d ja).2,fun H7 k t s7 hk ht=>⟨s7,k,t,rfl,hk,ht⟩⟩
  ·have ql:p.toList.Perm (X_ es.length):=by rw[←QZ];exact hp
   have L9:∀i∈p.toList,i<es.length:=fun i hi=>by simpa using ql.mem_iff.mp hi
   have dflt:Fd:=⟨0,[],[],[]⟩
   refine q1 (p.toList.map fun i=>es.getD i dflt) ⟨⟨es,f1,RC,ST,?_⟩,?_,?_⟩ _ D _ ((sH.trans s6).eR (sH.free hD)) (sH.free hD) ae ?_
   ·have e1:(X_ es.length).map (fun i=>es.getD i dflt)=es:=by
     apply List.ext_getElem
     ·simp
     ·intro i h1 h2;simp[h2]
    have:=ql.map fun i=>es.getD i dflt
    rw[e1]at this;exact this
   ·rw[List.length_map,ql.length_eq,List.length_range];exact hle
   ·rw[List.pairwise_map,List.pairwise_iff_getElem];intro i j hi hj mV;have hsz:p.size=es.length:=by have:=ql.length_eq;simpa using this
    have:=hs i j mV (by rw[QZ,←hsz];simpa using hj);have g1:gd p i=p.toList[i]:=by rw[EU];simp at hi;simp[hi]
    have g2:gd p j=p.toList[j]:=by rw[EU];simp at hj;simp[hj]
    rw[g1,g2]at this;have l1:=L9 _ (Zq hi);have l2:=L9 _ (Zq hj);generalize p.toList[i]=x at this l1;generalize p.toList[j]=y at this l2;unfold kl rz at this;unfold OM;simp only[List.getD_eq_getElem?_getD,List.getElem?_map,ZQ l1,ZQ l2,Option.map_some,Option.getD_some]at this⊢;by_cases ew:es[x].worth=es[y].worth
    ·rw[HB ew];rw[HB (by rw[ew])]at this;exact this
    ·rw[Dt ew];rw[Dt (fun z=>ew D9)]at this;simp at this⊢
     lia
   ·refine⟨IM,fun k d hk=>?_⟩;rw[List.getElem?_map]at hk;cases e:p.toList[k]? with
    |none=>rw[e]at hk;cases hk
    |some i=>
     rw[e]at hk;have hi:=L9 i (WI e);have hd:es.getD i dflt=d:=by simpa using hk
     have ei:es[i]?=some d:=by rw[←hd];simp[hi]
     obtain⟨x,dy,wy,iY,pr,kG,iq,e1,F⟩:=FE.2 i d ei;have nD:∀{b o},H5 b=some o→b≠D:=fun h z=>by rw[z,hD]at h;cases h
     refine⟨x,dy,wy,iY,pr,kG,iq,?_,F.ob|>fun h=>⟨by rw[aj (nD h)];exact s6 _ _ h,by rw[aj (nD F.hw)];exact s6 _ _ F.hw,(F.pw.same s6).same (UO Pj),by rw[aj (nD F.hr)];exact s6 _ _ F.hr,by rw[aj (nD F.hp)];exact s6 _ _ F.hp,(F.pp.same s6).same (UO Pj),MV.free F.fa,MV.free F.fw,MV.free F.fr,MV.free F.fp⟩⟩;rw[List.getElem?_map,e];show some (ul.getD i .cJ)=_;simp[e1]
theorem AN:aL ["_law_script","_law_k"] ["_law_script","_law_k"] (au qM):=⟨rfl,rfl,rfl,by decide+kernel,rfl,by decide+kernel,by decide+kernel⟩
include T in
theorem AO{f:Addr}{fd:FuncData}(F:jN K "_law_at" "_law_at" qM f fd):aZ P w K mg base (dz P w) true 1 f fd ["_law_script","_law_k"] (Ew K):=by
 refine F.gH AN (fun vs H Q E h=>?_) (fun bV A outer s H vs Q E hr h hX=>?_)
 ·obtain⟨a,ns,k,rfl,_⟩:=h;rfl
 ·obtain⟨a,ns,k,rfl,hS,h0,q⟩:=h;refine⟨_,(OA (Yh (Y7 mQ Rl (ZW (aJ K) (ZU V7))) (Lw (X' (Z6 Rl))) aQ) (Lw (X' ai))),?_⟩;refine⟨_,rfl,_,rfl,a,_,rfl, .inl hS,_,_,rfl,rfl,_,rfl,?_⟩;refine ba (fun h=>?_) (fun h=>?_)
  ·have h:k<((ns.map V.int).length:Int):=by simpa using h
   rw[List.length_map]at h;exact⟨_,rfl,_,rfl,a,_,k,_,rfl,rfl,hS,Hj h0 h,q⟩
  ·have h:¬k<((ns.map V.int).length:Int):=by simpa using h
   rw[List.length_map]at h;rw[cell_out h0 h]at q;exact q
theorem uR:aL ["_law_found"] ["_law_found"] (au kK):=⟨rfl,rfl,rfl,by decide+kernel,rfl,by decide+kernel,by decide+kernel⟩
include T in
theorem uS{f:Addr}{fd:FuncData}(F:jN K "_law_whole" "_law_whole" kK f fd):aZ P w K mg base (dz P w) true 1 f fd ["_law_found"] tf:=by
 refine F.gH uR Wa (fun bV A outer s H vs Q E hr h hX=>?_)
 ·obtain⟨i,rfl,_⟩:=h;rfl
 ·obtain⟨i,rfl,q⟩:=h;refine⟨_,(Lw (X' (@we _ _ _ _ _ _ _ (Z_ (gN K) T.dW PyProof.Rows.Boot.«isinstance» (Z1 V7 (ZU (@kr _ _ (.ty "int") _ _ (by exact rfl) T.Bj PyProof.Rows.Boot.«int» ZE (Nn) (Nn))))) (@wc _ _ _ _ _ (@J' _ _ _ _ (Z_ (gN K) T.dW PyProof.Rows.Boot.«isinstance» (Z1 V7 (ZU (@kr _ _ (.ty "bool") _ _ (by exact rfl) T.K0 PyProof.Rows.Boot.«bool» ZE (Nn) (Nn)))))))))),?_⟩;refine⟨_,rfl,_,_,_,true,_,rfl,rfl, .int i,rfl,_,rfl,?_⟩;refine jO ?_;exact⟨_,rfl,_,_,_,false,_,rfl,rfl, .int i,by kernel_rfl,_,rfl,q⟩
theorem bD:aL ["_law_cell","_law_other","_law_many","_law_letters","_law_stem","_law_rest","_law_k","_law_size","_law_found","_law_spot","_law_sign"] ["_law_cell","_law_other","_law_many"] (au lN):=⟨rfl,rfl,rfl,by decide+kernel,rfl,by decide+kernel,by decide+kernel⟩
include T in
theorem xt{f:Addr}{fd:FuncData}(F:jN K "_law_bank" "_law_bank" lN f fd):aZ P w K mg base (dz P w) true 1 f fd ["_law_cell","_law_other","_law_many"] wQ:=by
 refine F.gH bD Wa (fun bV A outer s H vs Q E hr h hX=>?_)
 ·obtain⟨cell,other,many,rfl,_⟩:=h;rfl
 ·obtain⟨cell,other,many,rfl,Uc,hm,q⟩:=h;have abE:=Hm;have VW:(0:Int)<26:=Nn;have VX:(0:Int)<12:=Nn;refine⟨_,(OA (ZS (3) bD.nd dR) (OA (ZS (4) bD.nd dR) (OA (ZS (5) bD.nd (Z2 dS V7 ai)) (OA (Z5 (Μ ZE T.fJ (ZU ai)) (ZT (6) bD.nd) (OA (ZS (4) bD.nd (Z2 ni Xr (ZK Eb W5 (Z2 bS (pv 5) ai)))) (Lw (ZS (5) bD.nd (Z2 dS (pv 5) ai))))) (OA (ZS (7) bD.nd (Z2 bC ai (Z2 bS (Z2 dS V7 ai) ai))) (OA (ZS (8) bD.nd (ZC af)) (OA (Z5 (Μ ZE T.fJ (ZU W4)) (ZT (6) bD.nd) (Lw (Yh (Y7 jn (Z2 bS V7 ai) ai) (Lw (Y_ (ZZ K bR (pv 8) (ZU (@oB _ _ _ _ _ _ _ _ _ _ zY Xr wt (@oA _ _ _ (Z2 bC ai (Z2 bS (Z2 bC (pv 7) (pv 6)) ai)))))))) (OA (ZS (9) bD.nd (Z2 bS Rl (pv 7))) (OA (ZS (10) bD.nd (ZK Eb W5 (Z2 bS (Z2 bC (Z2 dS Rl ai) (pv 6)) ai))) (Lw (Y_ (ZZ K bR (pv 8) (ZU (Z2 ni (Z2 ni (@oB _ _ _ _ _ _ _ _ _ _ zY Xr wt (@oA _ _ _ (pv 9))) (pv 10)) (@oB _ _ _ _ _ _ _ _ _ _ zY Xr (@oA _ _ _ (Z2 bC (pv 9) ai)) (@oA _ _ _ (pv 7))))))))))))) (Lw (X' (pv 8)))))))))),?_⟩;refine⟨_,rfl,_,_,rfl,rfl,⟨Nn,Nn⟩,?_⟩;refine⟨12,rfl,Nn,Nn,?_⟩;refine fo (fun i σ H'=>H'=H∧∃(bT:Str)(rest:Int)(kv:Option V),bT.length=i∧lows bT∧σ=[sI cell,sI other,sI many,sS Ob,sS bT,sI rest,kv,none,none,none,none]) ⟨rfl,_,_,_,(by decide+kernel),(show(Zk "").cps.toList.all low=true by decide+kernel),rfl⟩ ?_ ?_
  ·rintro i σ H' hi ⟨rfl,bT,rest,kv,hl,L_,rfl⟩;have hi:i<12:=hi;refine⟨_,rfl,_,rfl,_,rfl,_,_,rfl,rfl,VW,_,_,_,rfl,rfl,aD D9,ED,_,_,rfl,rfl,aD (show bT.length+1≤100000 by lia),?_⟩;refine⟨_,rfl,_,_,rfl,rfl,⟨Nn,Nn⟩,rfl,_,_,_,?_,?_,rfl⟩
   ·rw[len_app,hl];rfl
   ·have h1:bT.cps.toList.all low=true:=L_;have h2:=Bm rest;unfold lows;rw[oN,List.all_append,h1];simp[h2]
  ·rintro σ H' ⟨rfl,bT,rest,kv,hl,L_,rfl⟩;have hl:bT.length=12:=hl;refine⟨_,rfl,_,_,rfl,rfl,⟨Nn,Nn⟩,_,_,rfl,rfl,VX,_,_,rfl,rfl,?_⟩;have z0:1≤1+cell/2%12∧1+cell/2%12≤12:=by lia
   refine⟨aD Mi,fun D hD=>?_⟩;refine⟨_,rfl,many,rfl,by lia,by lia,?_⟩;refine fo (fun i σ H2=>(∃u v w,σ=[sI cell,sI other,sI many,sS Ob,sS bT,sI rest,u,sI (1+cell/2%12),sR D,v,w])∧H2 D=some (.lst (((X_ i).map (j5 bT cell other)).map V.str))∧av H' H2) ⟨⟨_,_,_,rfl⟩,ae,UO hD⟩ ?_ ?_
   ·rintro i σ H2 hi ⟨⟨u,v,w,rfl⟩,la,s2⟩;have hi:i<12:=by lia
    have nx:∀z,z=j5 bT cell other i→(X_ i).map (fun k=>V.str (j5 bT cell other k))++[V.str z]=((X_ (i+1)).map (j5 bT cell other)).map V.str:=fun z e=>by
     rw[List.range_succ,e];simp
    have hZ:(((X_ i).map (j5 bT cell other)).map V.str).length<sizeLine:=a_ Zc;refine⟨_,rfl,_,_,rfl,rfl,(show(0:Int)<2 by decide),rfl,_,rfl,?_⟩;refine ba (fun h=>?_) (fun h=>?_)
    ·have h:cell%2=1:=by simpa using h
     refine⟨_,rfl, .inl ⟨rfl,_, .of la⟩,_,rfl,_,rfl,_,rfl,_,_,rfl,rfl,_,_,rfl,rfl,VX,_,_,rfl,rfl,_,rfl,bT,rfl,aD D9,D,_,_,rfl,rfl,la,hZ,⟨_,_,_,rfl⟩,?_,s2.eR hD⟩;rw[ae];have:=nx (Txt.slice bT none (some (1+(1+cell/2%12+(0+(i:Int)))%12))) (by simp[j5,h]);rw[←this];simp
    ·have h:¬cell%2=1:=by simpa using h
     have z1:0≤other%(1+cell/2%12)∧other%(1+cell/2%12)<1+cell/2%12:=⟨Int.emod_nonneg _ (by lia),Int.emod_lt_of_pos _ (by lia)⟩
     have b1:=vJ bT none (some (other%(1+cell/2%12)));have b2:=vJ bT (some (other%(1+cell/2%12)+1)) (some (1+cell/2%12));refine⟨_,rfl,_,rfl,_,_,rfl,rfl,(show(0:Int)<1+cell/2%12 by lia),?_⟩;refine⟨_,rfl,_,rfl,_,_,rfl,rfl,⟨Nn,Nn⟩,_,rfl,_,_,rfl,rfl,_,_,rfl,rfl,VW,_,_,_,rfl,rfl,aD D9,ED,?_⟩;refine⟨_,rfl, .inl ⟨rfl,_, .of la⟩,_,rfl,_,rfl,_,rfl,bT,rfl,aD D9,_,rfl,_,_,rfl,rfl,aD (show(Txt.slice bT none (some (other%(1+cell/2%12)))).length+1≤100000 by lia),_,rfl,_,rfl,_,_,rfl,rfl,_,rfl,_,rfl,_,rfl,bT,rfl,aD D9,_,_,rfl,rfl,?_,D,_,_,rfl,rfl,la,hZ,⟨_,_,_,rfl⟩,?_,s2.eR hD⟩
     ·rw[len_app];exact aD (show(Txt.slice bT none (some (other%(1+cell/2%12)))).length+1+_≤100000 by lia)
     rw[ae];have:=nx (Txt.slice bT none (some (other%(1+cell/2%12)))++⟨#[97+((other/12+(0+(i:Int)))%26).toNat]⟩++Txt.slice bT (some (other%(1+cell/2%12)+1)) (some (1+cell/2%12))) (by simp[j5,h]);rw[←this];simp
   ·rintro σ H2 ⟨⟨u,v,w,rfl⟩,la,s2⟩;refine⟨_,rfl,q H2 D _ s2 hD la Mi ?_ (Aa hl cell other (by lia))⟩;intro z hz;obtain⟨k,_,rfl⟩:=Zt hz;exact EG hl L_ cell other k
variable(a9:bM P w K mg base true 1 "_law_at" ["_law_script","_law_k"] (Ew K))
theorem gq:aL ["_law_script","_law_cell","_law_spot","_law_many","_law_bank_here","_law_book_here","_law_rest","_law_k"] ["_law_script","_law_cell","_law_spot","_law_many","_law_bank_here"] (au lO):=⟨rfl,rfl,rfl,by decide+kernel,rfl,by decide+kernel,by decide+kernel⟩
include T a9 in
theorem xu{f:Addr}{fd:FuncData}(F:jN K "_law_book" "_law_book" lO f fd):aZ P w K mg base (dz P w) true 2 f fd ["_law_script","_law_cell","_law_spot","_law_many","_law_bank_here"] (wU K):=by
 refine F.gH gq Wa (fun bV A outer s H vs Q E hr h hX=>?_)
 ·obtain⟨a,b,ns,zs,c,p,m,rfl,_⟩:=h;rfl
 ·obtain⟨a,b,ns,zs,c,p,m,rfl,hS,hb,⟨Ud,Je⟩,YT,Uc,BY,q⟩:=h;refine⟨_,(OA (ZS (5) gq.nd (ZC af)) (OA (ZS (6) gq.nd Rl) (OA (Z5 (Μ ZE T.fJ (ZU W5)) (ZT (7) gq.nd) (OA (Y_ (ZZ K bR (pv 5) (ZU (Z0 Xr (Z2 bS (Z2 bC (Z2 bC (pv 6) (pv 7)) (ZV a9 aR (Z1 V7 (ZU (Z2 bC W4 (pv 7)))))) (ZW (aJ K) (ZU Xr))))))) (Lw (ZS (6) gq.nd (Z2 dS (pv 6) (ZW (aJ K) (ZU Xr))))))) (Lw (X' (pv 5)))))),?_⟩;refine⟨aD Mi,fun l hl=>?_⟩;refine⟨_,rfl,?_⟩;refine⟨_,rfl,m,rfl,by lia,by lia,?_⟩;refine fo (fun i σ H'=>(∃r u,σ=[sR a,sI c,sI p,sI m,sR b,sR l,sI r,u])∧av H H'∧∃ws:List Str,H' l=some (.lst (ws.map V.str))∧ws.length=i∧∀w∈ws,w∈zs) ⟨⟨_,_,rfl⟩,UO hl,[],ae,rfl,fun w hw=>by cases hw⟩ ?_ ?_
  ·rintro i σ H' hi ⟨⟨r,u,rfl⟩,s1,ws,lb,rV,L'⟩;have hi:i<m.toNat:=hi;have jT:=s1 _ _ hb;have z0:0≤(r+(0+(i:Int))+cell ns (p+(0+(i:Int))))%(zs.length:Int):=Int.emod_nonneg _ (by lia);have z1:(r+(0+(i:Int))+cell ns (p+(0+(i:Int))))%(zs.length:Int)<(zs.length:Int):=Int.emod_lt_of_pos _ (by lia);obtain⟨w,hw,Di⟩:=z9 zs z0 z1;have el:(zs.map V.str).length=zs.length:=List.length_map ..;refine⟨_,rfl, .inl ⟨rfl,_, .of lb⟩,_,rfl,_,rfl,_,rfl,_,_,rfl,rfl,_,rfl,_,rfl,_,rfl,_,_,rfl,rfl,a,ns,_,rfl,s1.seq hS,by lia,_,_,rfl,rfl,_,rfl,b,_,rfl, .inl (.of jT),_,_,rfl,rfl,(by rw[el];show(0:Int)<_;lia),b,_,_,_,rfl,rfl, .of jT,(by rw[el];exact Di),l,_,_,rfl,rfl,lb,a_ (by rw[List.length_map];lia),?_⟩;have Ik:b≠l:=aC hb hl;have xl:upd H' l (.lst (ws.map V.str++[.str w])) b=some (.lst (zs.map V.str)):=by rw[aj Ik];exact jT
   refine⟨_,rfl,_,rfl,b,_,rfl, .inl (.of xl),_,_,rfl,rfl,⟨by rw[el];lia,by rw[el];lia⟩,⟨_,_,rfl⟩,s1.eR hl,ws++[w],?_,by simp[rV],?_⟩
   ·rw[ae];simp
   ·intro x hx;rcases List.mem_append.mp hx with hx|hx
    ·exact L' x hx
    ·have:x=w:=by simpa using hx
     rw[this];exact hw
  ·rintro σ H' ⟨⟨r,u,rfl⟩,s1,ws,lb,rV,L'⟩;exact⟨_,rfl,q H' l ws s1 hl lb rV L'⟩
theorem cn:aL ["_law_script","_law_cell","_law_spot","_law_many","_law_first","_law_bank_here","_law_book_here","_law_rest","_law_place","_law_k","_law_pick"] ["_law_script","_law_cell","_law_spot","_law_many","_law_first","_law_bank_here"] (au iO):=⟨rfl,rfl,rfl,by decide+kernel,rfl,by decide+kernel,by decide+kernel⟩
include T a9 in
theorem uT{f:Addr}{fd:FuncData}(F:jN K "_law_quote" "_law_quote" iO f fd):aZ P w K mg base (dz P w) true 2 f fd ["_law_script","_law_cell","_law_spot","_law_many","_law_first","_law_bank_here"] (tD K):=by
 refine F.gH cn Wa (fun bV A outer s H vs Q E hr h hX=>?_)
 ·obtain⟨a,b,x,ns,zs,Ma,c,p,m,rfl,_⟩:=h;rfl
 ·obtain⟨a,b,x,ns,zs,Ma,c,p,m,rfl,hS,hb,hx,⟨Ud,Je⟩,yg,Ue,YT,Uc,BY,q⟩:=h;have hu:=hr.units;have JJ:(A.deeper (Zp "_law_quote" (au iO) f bV)).units<cLine:=by lia
  have c8:(0:Int)<8:=Nn;refine⟨_,(OA (ZS (6) cn.nd (ZC af)) (OA (ZS (7) cn.nd Rl) (OA (ZS (8) cn.nd ai) (OA (Z5 (Μ ZE T.fJ (ZU W5)) (ZT (9) cn.nd) (OA (ZS (10) cn.nd (Z2 bC (pv 7) (ZV a9 aR (Z1 V7 (ZU (Z2 bC W4 (pv 9))))))) (OA (ZS (7) cn.nd (Z2 dS (pv 7) (Z2 nh ai (ZW (aJ K) (ZU (pv 5)))))) (Lw (Yh (Zj (@pw_and _ _ _ _ _ _ _ (Y7 mQ (Z2 bS (pv 10) ai) ai) (@pw_and1 _ _ _ _ (Y7 (tm K JJ) (pv 4) (ZC af))))) (OA (ZS (8) cn.nd (Z2 bC (pv 8) (Ψ qi ZE T.Bj PyProof.Rows.Boot.«int» (ZU (@iH _ _ _ _ _ _ _ _ jn (Z2 bS (pv 10) ai) ai (aV _)))))) (OA (Y_ (ZZ K bR (pv 6) (ZU (Z0 Xr (Z2 bS (pv 8) (ZW (aJ K) (ZU Xr))))))) (Lw (ZS (8) cn.nd (Z2 bC (pv 8) ai))))) (Lw (Y_ (ZZ K bR (pv 6) (ZU (Z0 (pv 5) (Z2 bS (Z2 dS (pv 10) ai) (ZW (aJ K) (ZU (pv 5)))))))))))))) (Lw (X' (pv 6))))))),?_⟩;refine⟨aD Mi,fun l hl=>?_⟩;refine⟨_,rfl,?_⟩;refine⟨_,rfl,m,rfl,by lia,by lia,?_⟩;refine fo (fun i σ H'=>(∃(r pl:Int)(u1 u2:Option V),σ=[sR a,sI c,sI p,sI m,sR x,sR b,sR l,sI r,sI pl,u1,u2])∧av H H'∧∃ws:List Str,H' l=some (.lst (ws.map V.str))∧ws.length=i∧∀w∈ws,w∈zs) ⟨⟨_,_,_,_,rfl⟩,UO hl,[],ae,rfl,fun w hw=>by cases hw⟩ ?_ ?_
  ·rintro i σ H' hi ⟨⟨r,pl,u1,u2,rfl⟩,s1,ws,lb,rV,L'⟩;have hi:i<m.toNat:=hi;have jT:=s1 _ _ hb;have lp:=s1 _ _ hx;have el:(zs.map V.str).length=zs.length:=List.length_map ..;have VY:(Ma.map V.str).length=Ma.length:=List.length_map ..;have hZ:(ws.map V.str).length<sizeLine:=a_ (by rw[List.length_map];lia);refine⟨_,rfl,_,rfl,_,rfl,_,rfl,_,_,rfl,rfl,a,ns,_,rfl,s1.seq hS,by lia,_,_,rfl,rfl,?_⟩;refine⟨_,rfl,_,rfl,b,_,rfl, .inl (.of jT),_,_,rfl,rfl, .inl ZO,_,_,rfl,rfl,⟨by rw[el];lia,by rw[el];lia⟩,?_⟩;have fin:∀H3 (w:Str),av H H3→H3 l=some (.lst (ws.map V.str))→w∈zs→av H (upd H3 l (.lst (ws.map V.str++[.str w])))∧∃Ug:List Str,upd H3 l (.lst (ws.map V.str++[.str w])) l=some (.lst (Ug.map V.str))∧Ug.length=i+1∧∀w∈Ug,w∈zs:=fun H3 w s3 h3 hw=>by
    refine⟨s3.eR hl,ws++[w],by rw[ae];simp,by simp[rV],fun x hx=>?_⟩;rcases List.mem_append.mp hx with hx|hx
    ·exact L' x hx
    ·have:x=w:=by simpa using hx
     rw[this];exact hw
   have other:∀H3,av H H3→H3 l=some (.lst (ws.map V.str))→H3 b=some (.lst (zs.map V.str))→∃w,w∈zs∧so (zs.map V.str) ((r+cell ns (p+(0+(i:Int))))/8%((zs.map V.str).length:Int))=some (.str w):=fun H3 _ _ _=>by
    rw[el];exact z9 zs (Int.emod_nonneg _ (by lia)) (Int.emod_lt_of_pos _ (by lia))
   refine⟨_,rfl,_,_,rfl,rfl,c8,_,_,rfl,rfl,_,rfl,?_⟩;refine ba (fun h1=>?_) (fun h1=>?_)
   ·refine⟨_,rfl,aD Mi,fun pn MW=>⟨x,pn,_,rfl,rfl, .of (av.upd MW _ _ lp), .of ae,_,rfl,?_⟩⟩;have s2:av H (upd H' pn (.lst [])):=s1.trans (UO MW);have vF:=av.upd (o:= .lst []) MW _ _ lb;refine ba (fun h2=>?_) (fun h2=>?_)
    ·have cG:Ma≠[]:=by simpa using h2
     have Uh:0<Ma.length:=List.length_pos_iff.mpr cG;obtain⟨w,hw,Di⟩:=z9 Ma (i:=(pl+(if decide ((r+cell ns (p+(0+(i:Int))))%8=4)=true then 1 else 0))%((Ma.length:Nat):Int)) (Int.emod_nonneg _ (by lia)) (Int.emod_lt_of_pos _ (by lia));obtain⟨a1,a2⟩:=fin _ w s2 vF (Ue w hw);refine⟨_,rfl,_,rfl,_,_,rfl,rfl,c8,rfl, .inr ⟨_,rfl,_,_,rfl,rfl,?_⟩⟩;refine⟨_,rfl, .inl ⟨rfl,_, .of vF⟩,_,rfl,_,rfl,_,rfl,x,_,rfl, .inl (.of (s2 _ _ hx)),_,_,rfl,rfl,(by rw[VY];show(0:Int)<_;lia),x,_,_,_,rfl,rfl, .of (s2 _ _ hx),by rw[VY];simpa[beq_iff_eq,wA]using Di,l,_,_,rfl,rfl,vF,hZ,?_⟩;exact⟨_,rfl,_,_,rfl,rfl,⟨_,_,_,_,rfl⟩,a1,a2⟩
    ·obtain⟨w,hw,Di⟩:=other _ s2 vF (s2 _ _ hb);obtain⟨a1,a2⟩:=fin _ w s2 vF hw;refine⟨_,rfl, .inl ⟨rfl,_, .of vF⟩,_,rfl,_,rfl,_,_,rfl,rfl,⟨Nn,Nn⟩,_,rfl,b,_,rfl, .inl (.of (s2 _ _ hb)),_,_,rfl,rfl,(by rw[el];show(0:Int)<_;lia),b,_,_,_,rfl,rfl, .of (s2 _ _ hb),Di,l,_,_,rfl,rfl,vF,hZ,⟨_,_,_,_,rfl⟩,a1,a2⟩
   ·refine gM ?_;obtain⟨w,hw,Di⟩:=other _ s1 lb jT;obtain⟨a1,a2⟩:=fin _ w s1 lb hw;refine⟨_,rfl, .inl ⟨rfl,_, .of lb⟩,_,rfl,_,rfl,_,_,rfl,rfl,⟨Nn,Nn⟩,_,rfl,b,_,rfl, .inl (.of jT),_,_,rfl,rfl,(by rw[el];show(0:Int)<_;lia),b,_,_,_,rfl,rfl, .of jT,Di,l,_,_,rfl,rfl,lb,hZ,⟨_,_,_,_,rfl⟩,a1,a2⟩
  ·rintro σ H' ⟨⟨r,pl,u1,u2,rfl⟩,s1,ws,lb,rV,L'⟩;exact⟨_,rfl,q H' l ws s1 hl lb rV L'⟩
theorem eh:aL ["_law_script","_law_spot","_law_pick","_law_same","_law_most"] ["_law_script","_law_spot"] (au gh):=⟨rfl,rfl,rfl,by decide+kernel,rfl,by decide+kernel,by decide+kernel⟩
include T a9 in
theorem rY{f:Addr}{fd:FuncData}(F:jN K "_law_numbers" "_law_numbers" gh f fd):aZ P w K mg base (dz P w) true 2 f fd ["_law_script","_law_spot"] (ny K):=by
 refine F.gH eh Wa (fun bV A outer s H vs Q E hr h hX=>?_)
 ·obtain⟨a,ns,k,rfl,_⟩:=h;rfl
 ·obtain⟨a,ns,k,rfl,hS,h0,q⟩:=h;have c2:(0:Int)<2:=Nn;have c4:(0:Int)<4:=Nn;have c6:(0:Int)<6:=Nn;have cM:(0:Int)<1000000:=Nn;have VZ:∀i:Int,Ki i 4:=fun i=>⟨Nn,Nn⟩
  have YU:∀i:Int,Ki i 8:=fun i=>⟨Nn,Nn⟩
  refine⟨_,(OA (@oJ _ _ _ _ _ _ _ _ _ _ _ _ _ _ _ (2) _ _ (by exact rfl) eh.nd ZE (by exact rfl) (show bh ["_law_script","_law_spot","_law_pick","_law_same","_law_most"] (au gh) _ ["_law_k"] [0,1] ["_law_script","_law_spot"]from⟨rfl,by decide+kernel,by decide+kernel,by decide+kernel,rfl,rfl,by decide+kernel,by decide+kernel,by decide+kernel⟩) (Μ ZE T.fJ (ZU ai)) (fun _ _ _ _ _=>(ZT (0) (show(["_law_k","_law_script","_law_spot"]:List Str).Nodup by decide+kernel))) (fun _ _ _ _ _=>f7) (fun _ _ _ _ _=>(ZV a9 aR (Z1 Rl (ZU (Z2 bC W4 (pv 0)))))) (XR) (by intro _;rfl)) (OA (Yh (Y7 mQ (Λ bS ai) ai) (OA (ZS (3) eh.nd (Z2 bC ai (Z2 bS (Λ dS ai) ai))) (Lw (X' (ZC (Z1 W5 (Z1 (Λ bS ai) (Z1 (Λ bS ai) (ZU (Z2 bC ai (Λ bS (Z2 nh ai W5))))))))))) aQ) (OA (ZS (3) eh.nd (Z2 bC ai (Z2 bS (Λ dS ai) ai))) (OA (ZS (4) eh.nd (Z0 (ZC (ι (Z_ (qh rfl) T.Eu PyProof.Rows.Boot.«min» (Z1 ai (ZU (Z2 nh ai W5)))))) (Z2 bS (Λ dS ai) ai))) (Lw (X' (ZC (Z1 W5 (Z1 (Λ bS ai) (Z1 (Λ bS ai) (ZU (Z2 bC ai (Λ bS Xr))))))))))))),?_⟩;refine⟨4,rfl,Nn,Nn,fun D hD=>?_⟩;refine zX (fun i ys bx H'=>(∃u,bx=[u,sR a,sI k])∧∃is:List Int,ys=is.map V.int∧is.length=i∧H' D=some (.lst ys)∧av H H') ⟨⟨_,rfl⟩,[],rfl,rfl,ae,UO hD⟩ ?_ ?_
  ·rintro i ys bx H' hi ⟨⟨u,rfl⟩,is,rfl,hl,YV,s1⟩;have hi:i<4:=hi;refine nq ?_;exact⟨_,rfl,_,rfl,_,rfl,_,_,rfl,rfl,a,ns,_,rfl,s1.seq hS,by lia,YV,a_ (by rw[List.length_map];lia),⟨_,rfl⟩,is++[cell ns (k+(0+(i:Int)))],IM,by simp[hl],ae,s1.eR hD⟩
  ·rintro ys bx H1 ⟨_,is,rfl,hl,rT,s1⟩;obtain⟨p0,p1,p2,p3,rfl⟩:=Hq hl;refine⟨_,rfl,D,_,0,_,rfl,rfl, .of rT,R6 (j:=0),_,_,rfl,rfl,c4,_,_,rfl,rfl,_,rfl,?_⟩;refine ba (fun _=>?_) (fun _=>?_)
   ·refine⟨_,rfl,D,_,0,_,rfl,rfl, .of rT,R6 (j:=0),_,_,rfl,rfl,VZ _,_,_,rfl,rfl,c6,_,_,rfl,rfl,?_⟩;have z0:1≤1+p0/4%6∧1+p0/4%6≤6:=by lia
    have z3:0≤p3%(3*(1+p0/4%6)):=Int.emod_nonneg _ (by lia);have z4:p3%(3*(1+p0/4%6))<3*(1+p0/4%6):=Int.emod_lt_of_pos _ (by lia);exact⟨_,rfl,_,rfl,D,_,1,_,rfl,rfl, .of rT,R6 (j:=1),_,_,rfl,rfl,c4,_,rfl,D,_,2,_,rfl,rfl, .of rT,R6 (j:=2),_,_,rfl,rfl,c4,_,rfl,D,_,3,_,rfl,rfl, .of rT,R6 (j:=3),_,rfl,_,_,rfl,rfl, .inl ZO,_,_,rfl,rfl,(show(0:Int)<3*(1+p0/4%6) by lia),_,_,rfl,rfl,aD Mi,fun p hp=>q _ p _ _ _ _ (s1.trans (UO hp)) (s1.free hp) ae D9 (by lia) (by lia) (by lia)⟩
   ·refine⟨_,rfl,D,_,0,_,rfl,rfl, .of rT,R6 (j:=0),_,_,rfl,rfl,YU _,_,_,rfl,rfl,(show(0:Int)<999999 by decide),_,_,rfl,rfl,?_⟩;have z0:1≤1+p0/8%999999∧1+p0/8%999999≤999999:=by lia
    obtain⟨m,BY,hm⟩:=int_at [if 3*(1+p0/8%999999)<999999 then 3*(1+p0/8%999999)else 999999,999999] (i:=p0/4%2) (by lia) (show p0/4%2<2 by lia);have GB:1≤m∧m≤999999:=by
     simp only[List.mem_cons,List.not_mem_nil,or_false]at BY;rcases BY with rfl|rfl
     ·split<;>lia
     ·lia
    refine⟨_,rfl,_,_,rfl,rfl, .inl ZO,_,_,rfl,aD Mi,fun p hp=>?_⟩;have la:=av.upd (o:= .lst [.int (if 3*(1+p0/8%999999)<999999 then 3*(1+p0/8%999999)else 999999), .int 999999]) hp _ _ rT;refine⟨_,rfl,D,_,0,_,rfl,rfl, .of la,R6 (j:=0),_,_,rfl,rfl,VZ _,_,_,rfl,rfl,c2,p,_,_,_,rfl,rfl, .of ae,hm,?_⟩;have z3:0≤p3%m:=Int.emod_nonneg _ (by lia);have z4:p3%m<m:=Int.emod_lt_of_pos _ (by lia);exact⟨_,rfl,_,rfl,D,_,1,_,rfl,rfl, .of la,R6 (j:=1),_,_,rfl,rfl,cM,_,rfl,D,_,2,_,rfl,rfl, .of la,R6 (j:=2),_,_,rfl,rfl,cM,_,rfl,D,_,3,_,rfl,rfl, .of la,R6 (j:=3),_,rfl,_,_,rfl,rfl,(show(0:Int)<m by lia),_,_,rfl,rfl,aD Mi,fun p2 Cg=>q _ p2 _ _ _ _ ((s1.trans (UO hp)).trans (UO Cg)) ((s1.trans (UO hp)).free Cg) ae D9 (by lia) (by lia) (by lia)⟩
theorem dq:aL ["_law_cell","_law_bank_here","_law_same","_law_found","_law_rest","_law_x","_law_y","_law_price"] ["_law_cell","_law_bank_here","_law_same"] (au lP):=⟨rfl,rfl,rfl,by decide+kernel,rfl,by decide+kernel,by decide+kernel⟩
include T in
theorem xv{f:Addr}{fd:FuncData}(F:jN K "_law_near" "_law_near" lP f fd):aZ P w K mg base (dz P w) true 1 f fd ["_law_cell","_law_bank_here","_law_same"] wR:=by
 refine F.gH dq Wa (fun bV A outer s H vs Q E hr h hX=>?_)
 ·obtain⟨cell,same,b,zs,rfl,_⟩:=h;rfl
 ·obtain⟨cell,same,b,zs,rfl,hb,YW,hw,hn,XU,Kl,q⟩:=h;have N3:(0:Int)<same+3:=by lia
  refine⟨_,(OA (ZS (3) dq.nd (ZC af)) (OA (ZS (4) dq.nd V7) (OA (Z5 (ZH K Rl) (ZT (5) dq.nd) (Lw (Z5 (ZH K Rl) (ZT (6) dq.nd) (Lw (Yh (Y7 vt (pv 5) (pv 6)) (OA (ZS (7) dq.nd (Z2 bS (Z2 dS Xr ai) (Z2 bC W4 ai))) (UN (Yh (Y7 jn (Z2 bS Xr ai) ai) (OA (Y_ (ZZ K bR W5 (ZU (Zm (Z1 (pv 5) (Z1 (pv 6) (ZU (Z_ (qh rfl) T.Eu PyProof.Rows.Boot.«min» (ι (pv 7)))))))))) (Lw (ZS (4) dq.nd (Z2 dS Xr (Z2 bC W4 ai))))) (Lw (Yh (Y7 jn (Z2 bS Xr ai) ai) (Lw (Y_ (ZZ K bR W5 (ZU (Zm (Z1 (pv 5) (ι (pv 6)))))))) aQ))) (Lw (ZS (4) dq.nd (Z2 dS Xr ai))))) aQ))))) (Lw (X' W5))))),?_⟩;refine⟨aD Mi,fun l hl=>?_⟩;refine⟨_,rfl,?_⟩;have abJ:b≠l:=aC hb hl;refine⟨_,rfl,b,rfl,⟨_, .of (av.upd hl _ _ hb)⟩,?_⟩;refine bW (xs:=zs.map V.str) (fun i σ H'=>(∃(rest:Int)(u1 u2 u3:Option V),σ=[sI cell,sR b,sI same,sR l,sI rest,u1,u2,u3])∧av H H'∧∃xs fs,H' l=some (.lst xs)∧dQ H' xs fs∧cZ zs i 0 fs) ⟨⟨_,_,_,_,rfl⟩,UO hl,[],[],ae, .nil, .nil⟩ ?_ ?_ ?_
  ·rintro i σ H' _ ⟨_,s1,_⟩;exact .of (s1 _ _ hb)
  ·rintro i v σ H' hv ⟨⟨rest,u1,u2,u3,rfl⟩,s1,xs,fs,lb,T1,P1⟩;obtain⟨x,hx,rfl⟩:∃x,zs[i]?=some x∧v= .str x:=mf hv;have hi:i<zs.length:=(ZX hx).1;refine⟨_,rfl,b,rfl,⟨_, .of (s1 _ _ hb)⟩,?_⟩;refine bW (xs:=zs.map V.str) (fun j σ H'=>(∃(rest:Int)(u2 u3:Option V),σ=[sI cell,sR b,sI same,sR l,sI rest,sS x,u2,u3])∧av H H'∧∃xs fs,H' l=some (.lst xs)∧dQ H' xs fs∧cZ zs i j fs) ⟨⟨_,_,_,rfl⟩,s1,xs,fs,lb,T1,P1⟩ ?_ ?_ ?_
   ·rintro j σ H' _ ⟨_,s1,_⟩;exact .of (s1 _ _ hb)
   ·clear s1 lb T1 P1 xs fs u1 u2 u3 rest H';rintro j v σ H' hv ⟨⟨rest,u2,u3,rfl⟩,s1,xs,fs,lb,T1,P1⟩;obtain⟨y,hy,rfl⟩:∃y,zs[j]?=some y∧v= .str y:=mf hv;have Ed:xs.length<1000:=by
     have h1:=P1.uB;have h2:i*(zs.length-1)≤8*7:=Nat.mul_le_mul D9 (by lia);have h3:j<zs.length:=(ZX hy).1;have h4:=T1.1
     lia
    refine⟨_,rfl,_,rfl,rfl,_,rfl,?_⟩;refine ba (fun h=>?_) (fun h=>?_)
    rotate_left
    ·exact⟨⟨_,_,_,rfl⟩,s1,xs,fs,lb,T1,P1.skip⟩
    have cG:¬x=y:=by simpa using h
    refine⟨_,rfl,_,_,rfl,rfl,⟨Nn,Nn⟩,_,rfl,_,_,rfl,rfl,_,_,rfl,rfl,N3,?_⟩;have p0:0≤rest/3%(same+3):=Int.emod_nonneg _ (by lia);have add:∀(t:Addr)(ht:H' t=none)(pr:Int),0≤pr→pr≤999999→av H (upd (upd H' t (.tup [.str x, .str y, .int pr])) l (.lst (xs++[.ref t])))∧∃Gf JP,upd (upd H' t (.tup [.str x, .str y, .int pr])) l (.lst (xs++[.ref t])) l=some (.lst Gf)∧dQ (upd (upd H' t (.tup [.str x, .str y, .int pr])) l (.lst (xs++[.ref t]))) Gf JP∧cZ zs i (j+1) JP:=fun t ht pr h0 h1=>by
     refine⟨(s1.trans (UO ht)).eR hl,_,fs++[(x,y,pr)],ae,?_,P1.add hn hw hx hy cG h0 h1⟩;have T2:dQ (upd H' t (.tup (K1 (x,y,pr)))) (xs++[.ref t]) (fs++[(x,y,pr)]):=(T1.same (UO ht)).snoc ae;exact T2.cA (cO.lst (av.upd ht _ _ lb))
    refine⟨fun σ H2=>(∃(rest:Int)(u3:Option V),σ=[sI cell,sR b,sI same,sR l,sI rest,sS x,sS y,u3])∧av H H2∧∃xs fs,H2 l=some (.lst xs)∧dQ H2 xs fs∧cZ zs i (j+1) fs,?_,?_⟩
    ·refine⟨_,rfl,_,_,rfl,rfl,(show(0:Int)<3 by decide),rfl,_,rfl,?_⟩;refine ba (fun _=>?_) (fun _=>?_)
     ·refine⟨_,rfl, .inl ⟨rfl,_, .of lb⟩,_,rfl,_,rfl,_,rfl,_,_,rfl,aD Mi,fun t ht=>⟨l,xs,_,rfl,rfl,av.upd ht _ _ lb,a_ D9,?_⟩⟩;obtain⟨a1,a2⟩:=add t ht (if 999999<rest/3%(same+3)then 999999 else rest/3%(same+3)) (by split<;>lia) (by split<;>lia);exact⟨_,rfl,_,rfl,_,_,rfl,rfl,_,_,rfl,rfl,⟨N3,by lia⟩,⟨_,_,rfl⟩,a1,a2⟩
     ·refine⟨_,rfl,_,_,rfl,rfl,(show(0:Int)<9 by decide),rfl,_,rfl,?_⟩;refine ba (fun _=>?_) (fun _=>?_)
      ·refine⟨_,rfl, .inl ⟨rfl,_, .of lb⟩,_,rfl,_,rfl,aD Mi,fun t ht=>⟨l,xs,_,rfl,rfl,av.upd ht _ _ lb,a_ D9,?_⟩⟩;obtain⟨a1,a2⟩:=add t ht 999999 ZO (Nn);exact⟨⟨_,_,rfl⟩,a1,a2⟩
      ·exact⟨⟨_,_,rfl⟩,s1,xs,fs,lb,T1,P1.skip⟩
    rintro σ H2 ⟨⟨JQ,u4,rfl⟩,s2,Gf,JP,vF,T2,P2⟩;exact⟨_,rfl,_,_,rfl,rfl,⟨Nn,Nn⟩,⟨_,_,_,rfl⟩,s2,Gf,JP,vF,T2,P2⟩
   ·rintro σ H2 ⟨⟨JQ,u4,u5,rfl⟩,s2,Gf,JP,vF,T2,P2⟩;rw[List.length_map]at P2;exact⟨⟨_,_,_,_,rfl⟩,s2,Gf,JP,vF,T2,P2.row hi⟩
  ·rintro σ H2 ⟨⟨JQ,u4,u5,u6,rfl⟩,s2,Gf,JP,vF,T2,P2⟩;rw[List.length_map]at P2;exact⟨_,rfl,q H2 l Gf JP s2 hl vF T2 (P2.good YW)⟩
variable(jz:bM P w K mg base true 1 "_law_bank" ["_law_cell","_law_other","_law_many"] wQ)
variable(jA:bM P w K mg base true 2 "_law_book" ["_law_script","_law_cell","_law_spot","_law_many","_law_bank_here"] (wU K))
variable(iT:bM P w K mg base true 2 "_law_quote" ["_law_script","_law_cell","_law_spot","_law_many","_law_first","_law_bank_here"] (tD K))
variable(gu:bM P w K mg base true 2 "_law_numbers" ["_law_script","_law_spot"] (ny K))
variable(jB:bM P w K mg base true 1 "_law_near" ["_law_cell","_law_bank_here","_law_same"] wR)
theorem du:aL ["_law_script","_law_most","_law_many","_law_bank_here","_law_one","_law_other","_law_first","_law_second","_law_numbers_here"] ["_law_script","_law_most"] (au lQ):=⟨rfl,rfl,rfl,by decide+kernel,rfl,by decide+kernel,by decide+kernel⟩
include T a9 jz jA iT gu jB in
theorem xw{f:Addr}{fd:FuncData}(F:jN K "_law_case" "_law_case" lQ f fd):aZ P w K mg base (dz P w) true 3 f fd ["_law_script","_law_most"] (wV K):=by
 refine F.gH du Wa (fun bV A outer s H vs Q E hr h hX=>?_)
 ·obtain⟨a,ns,most,rfl,_⟩:=h;rfl
 ·obtain⟨a,ns,most,rfl,hS,Uc,BY,q⟩:=h;refine⟨_,(UN (ZS (2) du.nd (Z2 bC (Z2 bC ai (Z2 bS (Z9 a9 aR) ai)) (Z2 nh (Ψ qi ZE T.Bj PyProof.Rows.Boot.«int» (ZU (@iH _ _ _ _ _ _ _ _ rl Rl ai (aV _)))) ai))) (UN (ZS (3) du.nd (ZV jz aR (Z1 (Z9 a9 aR) (Χ (Z9 a9 aR))))) (UN (ZS (4) du.nd (Z2 bI Rl (Z2 bS (Z9 a9 aR) (Z2 bC Rl ai)))) (UN (ZS (5) du.nd (Z2 bI Rl (Z2 bS (Z9 a9 aR) (Z2 bC Rl ai)))) (UN (ZS (6) du.nd (ZV jA aR (Z1 V7 (Z1 (Z9 a9 aR) (Z1 ai (zr Xr)))))) (UN (ZS (7) du.nd (ZV iT aR (Z1 V7 (Z1 (Z9 a9 aR) (Z1 ai (Z1 (pv 5) (zr (pv 6)))))))) (UN (ZS (8) du.nd (Z9 gu aR)) (Lw (X' (ZC (Z1 (pv 6) (Z1 (pv 7) (Z1 (pv 8) (ZU (ZV jB aR (Z1 (Z9 a9 aR) (Z1 (@oB _ _ _ _ _ _ _ _ _ _ (Et K) (pv 3) wt (@oA _ _ _ ai)) (ZU (Z0 (pv 8) ai))))))))))))))))))),?_⟩;refine⟨fun σ H1=>∃many:Int,σ=[sR a,sI most,sI many,none,none,none,none,none,none]∧H1=H∧1≤many∧many≤12,?_,?_⟩
  ·refine⟨_,rfl,a,ns,2,rfl,hS,Nn,_,_,rfl,rfl,(show(0:Int)<5 by decide),_,_,rfl,rfl,_,rfl,_,_,rfl,rfl, .inr ⟨_,rfl,_,_,rfl,rfl, .inr ⟨Nn,Nn⟩,_,_,rfl,rfl,_,rfl,rfl,?_,?_⟩⟩
   ·split<;>lia
   ·split<;>lia
  rintro σ H ⟨many,rfl,rfl,aau,Gy⟩;refine⟨fun σ H1=>∃(b:Addr)(zs:List Str),σ=[sR a,sI most,sI many,sR b,none,none,none,none,none]∧av H H1∧H1 b=some (.lst (zs.map V.str))∧(1≤zs.length∧zs.length≤12)∧(∀z∈zs,s_ z=true)∧zs.Nodup,?_,?_⟩
  ·exact⟨_,rfl,a,ns,0,rfl,hS,Nn,_,rfl,a,ns,1,rfl,hS,Nn,_,rfl,_,_,many,rfl,by lia,by lia,fun H' b zs s1 hb jT hz hw hn=>⟨b,zs,rfl,s1,jT,by lia,hw,hn⟩⟩
  rintro σ H1 ⟨b,zs,rfl,s1,jT,hz,hw,hn⟩;have Pt:=s1.seq hS;refine⟨fun σ H2=>∃one:Int,σ=[sR a,sI most,sI many,sR b,sI one,none,none,none,none]∧H2=H1∧0≤one∧one≤most,?_,?_⟩
  ·have z0:0≤cell ns 3%(most+1):=Int.emod_nonneg _ (by lia);have z1:cell ns 3%(most+1)<most+1:=Int.emod_lt_of_pos _ (by lia);exact⟨_,rfl,_,rfl,a,ns,3,rfl,Pt,Nn,_,rfl,_,_,rfl,rfl,_,_,rfl,rfl,(show(0:Int)<most+1 by lia),_,_,rfl,rfl,_,rfl,rfl,by lia,by lia⟩
  rintro σ H1 ⟨one,rfl,rfl,YX,HM⟩;refine⟨fun σ H2=>∃IC:Int,σ=[sR a,sI most,sI many,sR b,sI one,sI IC,none,none,none]∧H2=H1∧0≤IC∧IC≤most,?_,?_⟩
  ·have z0:0≤cell ns 4%(most+1):=Int.emod_nonneg _ (by lia);have z1:cell ns 4%(most+1)<most+1:=Int.emod_lt_of_pos _ (by lia);exact⟨_,rfl,_,rfl,a,ns,4,rfl,Pt,Nn,_,rfl,_,_,rfl,rfl,_,_,rfl,rfl,(show(0:Int)<most+1 by lia),_,_,rfl,rfl,_,rfl,rfl,by lia,by lia⟩
  rintro σ H1 ⟨IC,rfl,rfl,F8,ON⟩;refine⟨fun σ H2=>∃(x:Addr)(xs:List Str),σ=[sR a,sI most,sI many,sR b,sI one,sI IC,sR x,none,none]∧av H1 H2∧H2 x=some (.lst (xs.map V.str))∧xs.length=one.toNat∧∀w∈xs,w∈zs,?_,?_⟩
  ·exact⟨_,rfl,_,rfl,a,ns,10,rfl,Pt,Nn,_,rfl,_,rfl,a,b,ns,zs,_,16,one,rfl,Pt,jT,⟨hz.1,by lia⟩,Nn,YX,by lia,fun H2 x xs s2 hx yg hl oe=>⟨x,xs,rfl,s2,yg,hl,oe⟩⟩
  rintro σ H2 ⟨x,xs,rfl,s2,yg,SJ,Ue⟩;have s3:=s1.trans s2;have Ui:=s2.seq Pt;refine⟨fun σ H3=>∃(y:Addr)(ys:List Str),σ=[sR a,sI most,sI many,sR b,sI one,sI IC,sR x,sR y,none]∧av H2 H3∧H3 y=some (.lst (ys.map V.str))∧ys.length=IC.toNat,?_,?_⟩
  ·exact⟨_,rfl,_,rfl,a,ns,11,rfl,Ui,Nn,_,rfl,_,rfl,_,rfl,a,b,x,ns,zs,xs,_,17,IC,rfl,Ui,s2 _ _ jT,yg,⟨hz.1,by lia⟩,by lia,Ue,Nn,F8,by lia,fun H3 y ys s4 hy DG hl _=>⟨y,ys,rfl,s4,DG,hl⟩⟩
  rintro σ H3 ⟨y,ys,rfl,s4,YY,Vz⟩;have s5:=s3.trans s4;have V1:=s4.seq Ui;refine⟨fun σ H4=>∃(n:Addr)(sa ou iN le:Int),σ=[sR a,sI most,sI many,sR b,sI one,sI IC,sR x,sR y,sR n]∧av H3 H4∧H4 n=some (.lst [.int sa, .int ou, .int iN, .int le])∧(1≤sa∧sa≤999999)∧(0≤ou∧ou≤999999)∧(0≤iN∧iN≤999999)∧(1≤le∧le≤999999),?_,?_⟩
  ·exact⟨_,rfl,a,ns,5,rfl,V1,Nn,fun H4 D sa ou iN le s6 hD JO h1 h2 h3 h4=>⟨D,sa,ou,iN,le,rfl,s6,JO,h1,h2,h3,h4⟩⟩
  rintro σ H4 ⟨n,sa,ou,iN,le,rfl,s6,V4,h1,h2,h3,h4⟩;have s7:=s5.trans s6;have YZ:=s6.seq V1;have Y0:H4 b=some (.lst (zs.map V.str)):=s6 _ _ (s4 _ _ (s2 _ _ jT));refine⟨_,rfl,_,rfl,_,rfl,_,rfl,a,ns,9,rfl,YZ,Nn,_,rfl,_,rfl,b,_,rfl, .of Y0,fun b5 MR=>?_⟩;have e5:Cm (zs.map V.str) none (some 5)=(zs.take 5).map V.str:=by
   have:HT.kx (zs.map V.str).length (zs.map V.str).length (some 5)=min 5 zs.length:=by
    rw[List.length_map];simp only[HT.kx];split<;>lia
   have e0:HT.kx (zs.map V.str).length 0 none=0:=by simp[HT.kx]
   unfold Cm;rw[this,e0,List.drop_zero,Nat.sub_zero,←List.map_take]
   congr 1
   apply List.ext_getElem?;intro i;rw[List.getElem?_take,List.getElem?_take];by_cases hi:i<zs.length
   ·by_cases h5:i<5
    ·rw[HB D9,HB h5]
    ·rw[Dt D9,Dt h5]
   ·simp[uW (by lia:zs.length≤i)]
  rw[e5];have s8:av H4 (upd H4 b5 (.lst ((zs.take 5).map V.str))):=UO MR;have Y1:=s8 _ _ V4;refine⟨_,rfl,n,_,0,_,rfl,rfl, .of Y1,R6 (j:=0),_,sa,b5,zs.take 5,rfl,ae,by simp;lia,fun z hz=>hw z (ui hz),hn.sublist (List.take_sublist ..),h1.1,h1.2,fun H6 l us fs s9 hl V5 T6 g6=>?_⟩;have sA:=(s7.trans s8).trans s9;refine⟨aD Mi,fun r hr=>?_⟩;have sB:=av.upd (o:= .lst [.ref x, .ref y, .ref n, .ref l]) hr;have sC:=s9.trans sB;refine q _ r ⟨xs,ys,sa,ou,iN,le,fs⟩ x y n l us (sA.trans sB) (sA.free hr) ⟨ae,?_,?_,?_,sB _ _ V5,T6.same sB⟩ ⟨by show xs.length≤_;lia,by show ys.length≤_;lia,g6,h1,h2,h3,h4⟩
  ·exact sC _ _ (s8 _ _ (s6 _ _ (s4 _ _ yg)))
  ·exact sC _ _ (s8 _ _ (s6 _ _ YY))
  ·exact sC _ _ (s8 _ _ V4)
theorem iU:aL ["_law_x","_law_y","_law_same","_law_near_here","_law_old","_law_new","_law_price"] ["_law_x","_law_y","_law_same","_law_near_here"] (au lR):=⟨rfl,rfl,rfl,by decide+kernel,rfl,by decide+kernel,by decide+kernel⟩
include T in
theorem xx{f:Addr}{fd:FuncData}(F:jN K "_law_pair" "_law_pair" lR f fd):aZ P w K mg base (dz P w) true 1 f fd ["_law_x","_law_y","_law_same","_law_near_here"] tq:=by
 refine F.gH iU Wa (fun bV A outer s H vs Q E hr h hX=>?_)
 ·obtain⟨x,y,same,l,xs,fs,rfl,_⟩:=h;rfl
 ·obtain⟨x,y,same,l,xs,fs,rfl,hl,T1,q⟩:=h;refine⟨_,(OA (Yh (Y7 jn V7 (pv 1)) (Lw (X' W4)) aQ) (OA (Z5 (ZH K W5) (Β K (3) (ZG (ZT (4) iU.nd) (ZG (ZT (5) iU.nd) (ZG (ZT (6) iU.nd) fF)))) (Lw (Yh (Zj (@pw_and _ _ _ _ _ _ _ (Y7 jn Xr (pv 0)) (@pw_and1 _ _ _ _ (Y7 jn (pv 5) (pv 1))))) (Lw (X' (Z2 bI W4 (pv 6)))) aQ))) (Lw (X' jL)))),?_⟩;refine⟨_,rfl,_,rfl,rfl,_,rfl,?_⟩;refine ba (fun h=>?_) (fun h=>?_)
  ·have h:x=y:=by simpa using h
   rw[show cY same fs x y=some same by simp[cY,h]]at q;exact⟨_,rfl,q⟩
  have h:¬x=y:=by simpa using h
  refine⟨_,rfl,l,rfl,⟨_, .of hl⟩,?_⟩;refine bW (xs:=xs) (fun i σ H'=>(∃u1 u2 u3,σ=[sS x,sS y,sI same,sR l,u1,u2,u3])∧H'=H∧∀f∈fs.take i,¬(f.1=x∧f.2.1=y)) ⟨⟨_,_,_,rfl⟩,rfl,IM⟩ ?_ ?_ ?_
  ·rintro i σ H' _ ⟨_,rfl,_⟩;exact .of hl
  ·rintro i v σ H' hv ⟨⟨u1,u2,u3,rfl⟩,rfl,CH⟩;have hi:i<fs.length:=by rw[←T1.1];exact(ZX hv).1
   have hf:fs[i]?=some fs[i]:=by simp[hi]
   generalize fs[i]=f0 at hf;obtain⟨t,ye,uD⟩:=T1.2 i f0 hf;rw[hv]at ye;cases ye;obtain⟨x0,y0,p0⟩:=f0;refine⟨t,_,rfl, .of uD,rfl,_,_,rfl,_,_,rfl,_,_,rfl,rfl,?_⟩;have QE:¬(x0=x∧y0=y)→∀f∈fs.take (i+1),¬(f.1=x∧f.2.1=y):=fun cG f V6=>by
    rw[List.take_succ,hf]at V6;rcases List.mem_append.mp V6 with h|h
    ·exact CH f h
    ·have h:f=(x0,y0,p0):=by simpa using h
     rw[h];exact cG
   refine⟨_,rfl,_,rfl,rfl,_,rfl,?_⟩;refine ba (fun hh=>?_) (fun hh=>?_)
   ·have Ak:x0=x:=by simpa using hh
    refine⟨_,rfl,_,rfl,rfl,_,rfl,?_⟩;refine ba (fun hh=>?_) (fun hh=>?_)
    ·have jT:y0=y:=by simpa using hh
     have e:dX fs x y=some p0:=rq hf CH ⟨Ak,jT⟩;rw[show cY same fs x y=some (same-p0) by simp[cY,h,e]]at q;exact⟨_,rfl,_,rfl,_,_,rfl,rfl,q⟩
    ·have jT:¬y0=y:=by simpa using hh
     exact⟨⟨_,_,_,rfl⟩,rfl,QE fun z=>jT z.2⟩
   ·have Ak:¬x0=x:=by simpa using hh
    refine gM ?_;exact⟨⟨_,_,_,rfl⟩,rfl,QE fun z=>Ak z.1⟩
  ·rintro σ H' ⟨⟨u1,u2,u3,rfl⟩,rfl,CH⟩;rw[T1.1,List.take_length]at CH;have e:dX fs x y=none:=EI CH;rw[show cY same fs x y=none by simp[cY,h,e]]at q;exact q
variable(bG:bM P w K mg base true 1 "_law_pair" ["_law_x","_law_y","_law_same","_law_near_here"] tq)
theorem cq:aL ["_law_case_here","_law_way","_law_total","_law_k","_law_i","_law_j","_law_gain"] ["_law_case_here","_law_way"] (au kL):=⟨rfl,rfl,rfl,by decide+kernel,rfl,by decide+kernel,by decide+kernel⟩
include T bG in
theorem uU{f:Addr}{fd:FuncData}(F:jN K "_law_worth" "_law_worth" kL f fd):aZ P w K mg base (dz P w) true 2 f fd ["_law_case_here","_law_way"] qv:=by
 refine F.gH cq Wa (fun bV A outer s H vs Q E hr h hX=>?_)
 ·obtain⟨a,w,c,f,g,m,l,us,ws,ps,rfl,_⟩:=h;rfl
 ·obtain⟨a,w,c,x1,x2,m,l,us,ws,ps,rfl,C1,no,hw,P1,hlen,Im,q⟩:=h;obtain⟨cG,Hf⟩:=kz Im;have Uh:0<ps.length:=List.length_pos_iff.mpr cG;have Io:=P1.1;have kT:=C1.ca;have zF:=C1.nu;have nO:=no.out;have nI:=no.into;refine⟨_,(OA (ZS (2) cq.nd ai) (OA (Z5 (Μ ZE T.fJ (ZU (ZW (aJ K) (ZU Rl)))) (ZT (3) cq.nd) (OA (@zH _ _ _ _ _ _ (Z0 Rl (pv 3)) (Β K (2) (ZG (ZT (4) cq.nd) (ZG (ZT (5) cq.nd) fF))) (XR) (XR) (XR)) (OA (ZS (6) cq.nd (ZV bG aR (Z1 (Z7 Xr) (θ (Z7 (pv 5)))))) (OA (Yh (Z' (@lB _ _ _ _ _ (pv 6))) (Lw (X' jL)) aQ) (OA (ZS (2) cq.nd (Z2 bC W4 (pv 6))) (Lw (Yh (Y7 rl W5 ai) (OA (ZS (2) cq.nd (Z2 bI W4 (Z2 nh (Z7 ai) (Z2 bI (Z2 bI Xr (ZK (bH K) (Z0 Rl (Z2 bI W5 ai)) ai)) ai)))) (Lw (ZS (2) cq.nd (Z2 bI W4 (Z2 nh (Z7 ai) (Z2 bI (Z2 bI (pv 5) (ZK (bH K) (Z0 Rl (Z2 bI W5 ai)) ai)) ai)))))) aQ))))))) (Lw (X' W4)))),?_⟩;refine⟨_,rfl,w,_,rfl, .inl (.of hw),(ws.length:Int),rfl,by lia,by lia,?_⟩;refine fo (fun i σ H'=>(∃(u1 u2 u3 u4:Option V),σ=[sR a,sR w,sI ((if i=0 then 0 else dE c ps (i-1))),u1,u2,u3,u4])∧H'=H) ⟨⟨_,_,_,_,rfl⟩,rfl⟩ ?_ ?_
  ·rintro i σ H' hi ⟨⟨u1,u2,u3,u4,rfl⟩,e0⟩;subst e0;have hi:i<ps.length:=by lia
   obtain⟨tt,ye,uD⟩:=P1.K5 hi;obtain⟨wo,Q0⟩:=Hu (Hf i hi);obtain⟨b1,b2⟩:=c.pw_in Q0;obtain⟨x,lp,yg⟩:=vM b1.1 b1.2;obtain⟨y,Gy,DG⟩:=vM b2.1 b2.2;have ep:c.pw (pr ps i)=cY c.same c.fs x y:=Case.pw_of lp Gy;refine⟨_,rfl,_,rfl,w,_,_,_,rfl,rfl, .of hw,Ms ye,tt,_,rfl, .of uD,rfl,_,_,rfl,_,_,rfl,rfl,?_⟩;refine⟨_,rfl,a,_,0,_,rfl,rfl, .of kT,R6 (j:=0),_,rfl,x1,_,_,_,rfl,rfl, .of C1.fi,yg,_,rfl,a,_,1,_,rfl,rfl, .of kT,R6 (j:=1),_,rfl,x2,_,_,_,rfl,rfl, .of C1.se,DG,_,rfl,a,_,2,_,rfl,rfl, .of kT,R6 (j:=2),m,_,0,_,rfl,rfl, .of zF,R6 (j:=0),_,rfl,a,_,3,_,rfl,rfl, .of kT,R6 (j:=3),x,y,c.same,l,us,c.fs,rfl,C1.ne,C1.tr,?_⟩;rw[←ep,Q0];refine⟨_,rfl,_,rfl,?_⟩;refine ba Τ (fun _=>?_);refine⟨_,rfl,_,rfl,_,_,rfl,rfl,?_⟩;refine⟨_,rfl,_,_,rfl,rfl,_,rfl,?_⟩;refine ba (fun h2=>?_) (fun h2=>?_)
   ·have h2:0<i:=by
     have:(0:Int)<0+(i:Int):=by simpa using h2
     lia
    obtain⟨j,rfl⟩:∃j,i=j+1:=⟨i-1,by lia⟩
    have e1:((0+((j+1:Nat):Int))-1)=((j:Nat):Int):=by lia
    obtain⟨t2,ON,FC⟩:=P1.K5 (show j<ps.length by lia);have Di:so ws ((0+((j+1:Nat):Int))-1)=some (.ref t2):=by rw[e1];exact ar ON
    refine⟨_,rfl,_,rfl,a,_,2,_,rfl,rfl, .of kT,R6 (j:=2),m,_,1,_,rfl,rfl, .of zF,R6 (j:=1),_,rfl,_,rfl,_,rfl,_,_,rfl,rfl,w,_,_,_,rfl,rfl, .of hw,Di,t2,_,0,_,rfl,rfl, .of FC,R6 (j:=0),_,_,rfl,rfl,_,_,rfl,rfl,_,_,rfl,rfl, .inl ⟨by lia,by lia⟩,_,_,rfl,rfl,?_⟩;refine⟨_,rfl,_,rfl,a,_,2,_,rfl,rfl, .of kT,R6 (j:=2),m,_,2,_,rfl,rfl, .of zF,R6 (j:=2),_,rfl,_,rfl,_,rfl,_,_,rfl,rfl,w,_,_,_,rfl,rfl, .of hw,Di,t2,_,1,_,rfl,rfl, .of FC,R6 (j:=1),_,_,rfl,rfl,_,_,rfl,rfl,_,_,rfl,rfl, .inl ⟨by lia,by lia⟩,_,_,rfl,rfl,⟨some (.int (0+((j+1:Nat):Int))),some (.int (pr ps (j+1)).1),some (.int (pr ps (j+1)).2),some (.int wo),?_⟩,rfl⟩;have:dE c ps (j+1)=dE c ps j+wo-c.out*((pr ps (j+1)).1-(pr ps j).1-1)-c.into*((pr ps (j+1)).2-(pr ps j).2-1):=by
     simp only[dE,Q0,Case.gap,Option.getD_some]
     lia
    simp only[Nat.add_sub_cancel,Nat.succ_ne_zero,if_false,this];rfl
   ·have h2:i=0:=by
     have:¬(0:Int)<0+(i:Int):=by simpa using h2
     lia
    subst h2;refine⟨⟨some (.int (0+((0:Nat):Int))),some (.int (pr ps 0).1),some (.int (pr ps 0).2),some (.int wo),?_⟩,rfl⟩;have:dE c ps 0=0+wo:=by simp[dE,Q0]
    simp only[Nat.zero_add,Nat.sub_self,Nat.one_ne_zero,if_false,this];rfl
  ·rintro σ H' ⟨⟨u1,u2,u3,u4,rfl⟩,rfl⟩;have e:((ws.length:Nat):Int).toNat=ps.length:=by lia
   rw[e,Dt D9];exact⟨_,rfl,q⟩
variable(cI:bM P w K mg base true 1 "_law_whole" ["_law_found"] tf)
theorem m4:aL ["_law_found","_law_pair_here"] ["_law_found"] (au kM):=⟨rfl,rfl,rfl,by decide+kernel,rfl,by decide+kernel,by decide+kernel⟩
include T cI in
theorem uV{f:Addr}{fd:FuncData}(F:jN K "_law_pairs" "_law_pairs" kM f fd):aZ P w K mg base (dz P w) true 2 f fd ["_law_found"] qu:=by
 refine F.gH m4 Wa (fun bV A outer s H vs Q E hr h hX=>?_)
 ·obtain⟨a,us,ps,rfl,_⟩:=h;rfl
 ·obtain⟨a,us,ps,rfl,ha,P1,q⟩:=h;refine⟨_,(OA (Zo (@dH _ _ _ _ (ZR (Z_ (gN K) T.dW PyProof.Rows.Boot.«isinstance» (ο V7)))) aQ) (OA (Z5 (ZH K V7) (ZT (1) m4.nd) (OA (Zo (Zj (Zi (@dH _ _ _ _ (ZR (Z_ (gN K) T.dW PyProof.Rows.Boot.«isinstance» (Z1 Rl (ZU (@kr _ _ (.ty "tuple") _ _ (by exact rfl) T.Hh PyProof.Rows.Boot.«tuple» ZE (Nn) (Nn))))))) (@pw_or1 _ _ _ _ (Y7 vt (ZW (aJ K) (ZU Rl)) ai)))) aQ) (Lw (Zo (Zj (Zi (@dH _ _ _ _ (ZR (ZV cI aR (ZU (ZK (bH K) (pv 1) ai))))) (@pw_or1 _ _ _ _ (@dH _ _ _ _ (ZR (ZV cI aR (ZU (ZK (bH K) (pv 1) ai)))))))) aQ)))) (Lw (X' eI)))),?_⟩;refine⟨_,rfl,_,_,_,true,_,rfl,rfl, .lst ha,rfl,_,rfl,?_⟩;refine gM ?_;refine⟨_,rfl,a,rfl,⟨_, .of ha⟩,?_⟩;refine bW (xs:=us) (fun i σ H'=>(∃u,σ=[sR a,u])∧H'=H) ⟨⟨_,rfl⟩,rfl⟩ ?_ ?_ ?_
  ·rintro i σ H' _ ⟨_,rfl⟩;exact .of ha
  ·rintro i v σ H' hv ⟨⟨u,rfl⟩,rfl⟩;have hi:i<ps.length:=by rw[←P1.1];exact(ZX hv).1
   obtain⟨t,ye,uD⟩:=P1.K5 hi;rw[hv]at ye;cases ye;refine⟨_,rfl,_,_,_,true,_,rfl,rfl, .tup uD,rfl,_,rfl,?_⟩;refine gM ?_;refine⟨_,rfl,t,_,rfl, .inr (.of uD),rfl,_,rfl,?_⟩;refine ba (fun hh=>Zy hh) (fun _=>?_);refine⟨_,rfl,t,_,0,_,rfl,rfl, .of uD,R6 (j:=0),_,rfl,_,rfl,?_⟩;refine gM ?_;refine⟨_,rfl,t,_,1,_,rfl,rfl, .of uD,R6 (j:=1),_,rfl,_,rfl,?_⟩;refine gM ?_;exact⟨⟨_,rfl⟩,rfl⟩
  ·rintro σ H' ⟨⟨u,rfl⟩,rfl⟩;exact q
variable(px:mS P w K mg base true 5 "Terms" aU ["self","same","out","into","least","part","near"] [] (sD aU d0 cV))
theorem m6:aL ["_law_case_here","_law_n"] ["_law_case_here"] (au kN):=⟨rfl,rfl,rfl,by decide+kernel,rfl,by decide+kernel,by decide+kernel⟩
include T px in
theorem aaH{f:Addr}{fd:FuncData}(F:jN K "_law_terms" "_law_terms" kN f fd):aZ P w K mg base (dz P w) true 7 f fd ["_law_case_here"] (qt aU):=by
 refine F.gH m6 Wa (fun bV A outer s H vs Q E hr h hX=>?_)
 ·obtain⟨a,c,f,g,m,l,us,most,rfl,_⟩:=h;rfl
 ·obtain⟨a,c,x1,x2,m,l,us,most,rfl,C1,ok,q⟩:=h;refine⟨_,(OA (ZS (1) m6.nd (Z6 ai)) (Lw (X' (ξ px (hr.mono ZO) hX.pass (Z1 (Z0 Rl ai) (Z1 (Z0 Rl ai) (Z1 (Z0 Rl ai) (Z1 (Z0 Rl ai) (Z1 ai (ZU (Ψ (gU K) (by exact rfl) T.lE PyProof.Rows.Boot.«list» (ZU (Z6 ai))))))))))))),?_⟩;have zF:=C1.nu;have kT:=C1.ca;refine⟨_,rfl,a,_,2,_,rfl,rfl, .of kT,R6 (j:=2),?_⟩;refine⟨_,rfl,m,_,0,_,rfl,rfl, .of zF,R6 (j:=0),_,rfl,m,_,1,_,rfl,rfl, .of zF,R6 (j:=1),_,rfl,m,_,2,_,rfl,rfl, .of zF,R6 (j:=2),_,rfl,m,_,3,_,rfl,rfl, .of zF,R6 (j:=3),_,rfl,a,_,3,_,rfl,rfl, .of kT,R6 (j:=3),l,us,rfl, .inl (.of C1.ne),fun h hh=>fun x dx hx EJ cG=>?_⟩;have s5:av (upd H h (.lst us)) (upd (upd (upd H h (.lst us)) dx (.own x)) x (.ins aU dx [])):=(UO EJ).eR hx;have s4:av H (upd H h (.lst us)):=UO hh;refine⟨x,dx,⟨c.same,c.out,c.into,c.least,50⟩, .ref h,us,c.fs,rfl,ae,by rw[aj cG];exact ae, .inr ⟨h,rfl,s5 _ _ ae,C1.tr.same (s4.trans s5)⟩,Ab ok.good,?_⟩;have Y2:i9 ⟨c.same,c.out,c.into,c.least,50⟩=true:=by
   have:=ok.same;have:=ok.out;have:=ok.into;have:=ok.least;simp[i9,inR]
   lia
  rw[HB Y2,HB ok.good];intro H6 l2 d sb T6 V5 abM;exact⟨rfl,q H6 x (s4.trans (SameBut.Ac hx EJ sb)) ⟨_,dx,l2,d,us,T6,rfl,rfl,rfl,rfl⟩⟩
theorem dw:aL ["_law_case_here","_law_many","_law_x","_law_y","_law_each","_law_same","_law_least"] ["_law_case_here"] (au lS):=⟨rfl,rfl,rfl,by decide+kernel,rfl,by decide+kernel,by decide+kernel⟩
include T bG in
theorem xy{f:Addr}{fd:FuncData}(F:jN K "_law_calm" "_law_calm" lS f fd):aZ P w K mg base (dz P w) true 2 f fd ["_law_case_here"] xn:=by
 refine F.gH dw Wa (fun bV A outer s H vs Q E hr h hX=>?_)
 ·obtain⟨a,c,f,g,m,l,us,rfl,_⟩:=h;rfl
 ·obtain⟨a,c,x1,x2,m,l,us,rfl,C1,ok,q⟩:=h;refine⟨_,(UN (ZS (1) dw.nd ai) (UN (Z5 (ZH K (Z6 ai)) (ZT (2) dw.nd) (Lw (Z5 (ZH K (Z6 ai)) (ZT (3) dw.nd) (Lw (ZS (1) dw.nd (Z2 bC Rl (Ψ qi ZE T.Bj PyProof.Rows.Boot.«int» (ZU (@zG _ _ _ _ _ _ (@ot _ _ _ _ _ (ZV bG aR (Z1 W4 (θ W5)))) (by first|exact bj _ (Nn) (Nn)|rfl)))))))))) (UN (ZS (4) dw.nd (Z2 bC (Z2 dS Rl ai) ai)) (UN (ZS (5) dw.nd (Z_ (qh rfl) T.Eu PyProof.Rows.Boot.«min» (Z1 (Z7 ai) (ZU (Z2 dS ai Xr))))) (UN (ZS (6) dw.nd (Z_ (Ca rfl) T.Jd PyProof.Rows.Boot.«max» (Z1 (Z7 ai) (ZU (Z2 bC (Z2 nh (Z2 bI Xr ai) (pv 5)) ai))))) (Lw (X' (ZC (Z1 (Z6 ai) (Z1 (Z6 ai) (χ (ZC (Z1 (pv 5) (Z1 (Z7 ai) (Z1 (Z7 ai) (ZU (pv 6))))))))))))))))),?_⟩;have kT:=C1.ca;have zF:=C1.nu;have lx:(c.xs.map V.str).length=c.xs.length:=List.length_map ..;have ly:(c.ys.map V.str).length=c.ys.length:=List.length_map ..;refine⟨fun σ H1=>H1=H∧σ=[sR a,sI 0,none,none,none,none,none],⟨rfl,rfl⟩,?_⟩;rintro σ H1 ⟨rfl,rfl⟩;refine⟨fun σ H2=>H2=H1∧∃u v,σ=[sR a,sI (manyN c c.xs.length:Nat),u,v,none,none,none],?_,?_⟩
  ·refine⟨_,rfl,a,_,0,_,rfl,rfl, .of kT,R6 (j:=0),x1,rfl,⟨_, .of C1.fi⟩,?_⟩;refine bW (xs:=c.xs.map V.str) (fun i σ H2=>H2=H1∧∃u v,σ=[sR a,sI (manyN c i:Nat),u,v,none,none,none]) ⟨rfl,_,_,rfl⟩ ?_ ?_ ?_
   ·rintro i σ H2 _ ⟨rfl,_⟩;exact .of C1.fi
   ·rintro i v σ H2 hv ⟨rfl,u1,u2,rfl⟩;obtain⟨wx,QW,rfl⟩:=mf hv;refine⟨_,rfl,a,_,1,_,rfl,rfl, .of kT,R6 (j:=1),x2,rfl,⟨_, .of C1.se⟩,?_⟩;refine bW (xs:=c.ys.map V.str) (fun j σ H3=>H3=H2∧∃v,σ=[sR a,sI (manyN c i+FP c i j:Nat),sS wx,v,none,none,none]) ⟨rfl,_,rfl⟩ ?_ ?_ ?_
    ·rintro j σ H3 _ ⟨rfl,_⟩;exact .of C1.se
    ·rintro j v σ H3 L6 ⟨rfl,u3,rfl⟩;obtain⟨wy,DI,rfl⟩:=mf L6;have Tv:c.pw (aP (i,j))=cY c.same c.fs wx wy:=Case.pw_of (by rw[show(aP (i,j)).1=(i:Int)from rfl,tw];exact QW) (by rw[show(aP (i,j)).2=(j:Int)from rfl,tw];exact DI);refine⟨_,rfl,_,rfl,_,rfl,_,rfl,a,_,2,_,rfl,rfl, .of kT,R6 (j:=2),m,_,0,_,rfl,rfl, .of zF,R6 (j:=0),_,rfl,a,_,3,_,rfl,rfl, .of kT,R6 (j:=3),wx,wy,c.same,l,us,c.fs,rfl,C1.ne,C1.tr, .inr ⟨_,rfl,_,_,rfl,rfl,rfl,some (.str wy),?_⟩⟩;rw[C0,Tv];cases cY c.same c.fs wx wy<;>simp[bB,List.set]<;>lia
    ·rintro σ H3 ⟨rfl,u3,rfl⟩;rw[ly];exact⟨rfl,_,_,rfl⟩
   ·rintro σ H2 ⟨rfl,u1,u2,rfl⟩;rw[lx];exact⟨rfl,_,_,rfl⟩
  rintro σ H1 ⟨rfl,u,v,rfl⟩;have aav:manyN c c.xs.length≤3600:=by
   have:=BP c c.xs.length;have h2:=Nat.mul_le_mul ok.x ok.y
   lia
  have ee:((manyN c c.xs.length:Nat):Int)/21+1=(bK c:Int):=by unfold bK;lia
  have he:(1:Int)≤bK c∧(bK c:Int)≤172:=by unfold bK;lia
  refine⟨fun σ H2=>H2=H1∧σ=[sR a,sI (manyN c c.xs.length:Nat),u,v,sI (bK c),none,none],⟨_,rfl,_,_,rfl,rfl,⟨Nn,Nn⟩,_,_,rfl,rfl,rfl,by rw[ee];rfl⟩,?_⟩;rintro σ H1 ⟨rfl,rfl⟩;have es:(if 999999/(bK c:Int)<c.same then 999999/(bK c:Int)else c.same)=fY c:=by unfold fY;split<;>lia
  refine⟨fun σ H2=>H2=H1∧σ=[sR a,sI (manyN c c.xs.length:Nat),u,v,sI (bK c),sI (fY c),none],⟨_,rfl,a,_,2,_,rfl,rfl, .of kT,R6 (j:=2),m,_,0,_,rfl,rfl, .of zF,R6 (j:=0),_,rfl,_,_,rfl,rfl,⟨by lia,by lia⟩,_,_,rfl,rfl,by rw[es];rfl⟩,?_⟩;rintro σ H1 ⟨rfl,rfl⟩;have s1:1≤fY c∧fY c≤999999:=by
   have:=(BQ ok D9).same;exact this
  have el:(if ((bK c:Int)-1)*fY c+1>c.least then((bK c:Int)-1)*fY c+1 else c.least)=(mZ c).least:=by show _=max c.least _;split<;>lia
  refine⟨fun σ H2=>H2=H1∧σ=[sR a,sI (manyN c c.xs.length:Nat),u,v,sI (bK c),sI (fY c),sI ((mZ c).least)],⟨_,rfl,a,_,2,_,rfl,rfl, .of kT,R6 (j:=2),m,_,3,_,rfl,rfl, .of zF,R6 (j:=3),_,rfl,_,_,rfl,rfl,_,rfl,_,_,rfl,rfl, .inl ⟨by lia,by lia⟩,_,_,rfl,rfl,_,_,rfl,rfl,by rw[el];rfl⟩,?_⟩;rintro σ H1 ⟨rfl,rfl⟩;refine⟨_,rfl,a,_,0,_,rfl,rfl, .of kT,R6 (j:=0),_,rfl,a,_,1,_,rfl,rfl, .of kT,R6 (j:=1),_,rfl,_,rfl,a,_,2,_,rfl,rfl, .of kT,R6 (j:=2),m,_,1,_,rfl,rfl, .of zF,R6 (j:=1),_,rfl,a,_,2,_,rfl,rfl, .of kT,R6 (j:=2),m,_,2,_,rfl,rfl, .of zF,R6 (j:=2),_,rfl,aD Mi,fun m' Cq=>?_⟩;have sm:=av.upd (o:= .lst [.int (fY c), .int c.out, .int c.into, .int (mZ c).least]) Cq;have Mb:=sm _ _ kT;refine⟨_,rfl,a,_,3,_,rfl,rfl, .of Mb,R6 (j:=3),aD Mi,fun b hb=>?_⟩;have sb:=av.upd (o:= .lst [.ref x1, .ref x2, .ref m', .ref l]) hb;have sA:=sm.trans sb;exact q _ b m' sA (sm.free hb) ae ⟨ae,sA _ _ C1.fi,sA _ _ C1.se,sb _ _ ae,sA _ _ C1.ne,C1.tr.same sA⟩
variable(gv:bM P w K mg base true 2 "_law_pairs" ["_law_found"] qu)
theorem lg:aL ["_law_found","_law_told"] ["_law_found"] (au gi):=⟨rfl,rfl,rfl,by decide+kernel,rfl,by decide+kernel,by decide+kernel⟩
include T Fc cI gv in
theorem rZ{f:Addr}{fd:FuncData}(F:jN K "_law_finding" "_law_finding" gi f fd):aZ P w K mg base (dz P w) true 3 f fd ["_law_found"] (t6 aA):=by
 refine F.gH lg Wa (fun bV A outer s H vs Q E hr h hX=>?_)
 ·obtain⟨y,P,d,dy,wy,rw,pr,kG,iq,rfl,_⟩:=h;rfl
 ·obtain⟨y,P,d,dy,wy,iY,pr,kG,iq,rfl,F,hl,cG,q⟩:=h;have hu:=hr.units;have JJ:(A.deeper (Zp "_law_finding" (au gi) f bV)).units<cLine:=by lia
  refine⟨_,(OA (Zo (Zj (Zi (@dH _ _ _ _ (ZR (ZV cI aR (ZU (ZY K))))) (Zi (@dH _ _ _ _ (ZR (ZV gv aR (ZU (ZY K))))) (@pw_or1 _ _ _ _ (@dH _ _ _ _ (ZR (ZV gv aR (ZU (ZY K))))))))) aQ) (OA (Zo (Zj (Zi (@dH _ _ _ _ (ZR (Z_ (gN K) T.dW PyProof.Rows.Boot.«isinstance» (ο (ZY K))))) (Zi (Y7 vt (ZW (aJ K) (ZU (ZY K))) (ZW (aJ K) (ZU (ZY K)))) (@pw_or1 _ _ _ _ (Y7 (yD K JJ) (ZY K) (ZC af)))))) aQ) (OA (Z5 (ZH K (ZY K)) (ZT (1) lg.nd) (Lw (Zo (@dH _ _ _ _ (ZR (ZV cI aR (ZU Rl)))) aQ))) (Lw (X' eI))))),?_⟩;have h1:kG≠[]:=fun z=>cG (List.length_eq_zero_iff.mp (by rw[←F.pw.1,z];rfl))
  refine⟨_,rfl,y,aA,dy,_,_,rfl,F.ob,Fc.cl,Fc.worth,j8 d.worth wy iY pr,_,rfl,_,rfl,?_⟩;refine gM ?_;refine⟨_,rfl,y,aA,dy,_,_,rfl,F.ob,Fc.cl,Fc.way,qF d.worth wy iY pr,wy,kG,d.way,rfl,F.hw,F.pw,_,rfl,?_⟩;refine gM ?_;refine⟨_,rfl,y,aA,dy,_,_,rfl,F.ob,Fc.cl,Fc.pairs,jb d.worth wy iY pr,pr,iq,d.pairs,rfl,F.hp,F.pp,_,rfl,?_⟩;refine gM ?_;refine⟨_,rfl,y,aA,dy,_,_,rfl,F.ob,Fc.cl,Fc.row,As d.worth wy iY pr,_,_,_,true,_,rfl,rfl, .lst F.hr,rfl,_,rfl,?_⟩;refine gM ?_;refine⟨_,rfl,y,aA,dy,_,_,rfl,F.ob,Fc.cl,Fc.row,As d.worth wy iY pr,iY,_,rfl, .inl (.of F.hr),_,rfl,y,aA,dy,_,_,rfl,F.ob,Fc.cl,Fc.way,qF d.worth wy iY pr,wy,_,rfl, .inl (.of F.hw),rfl,_,rfl,?_⟩;have h2:(d.row.map V.int).length=kG.length:=by rw[List.length_map,hl,F.pw.1]
  rw[h2];refine ba (fun hh=>Zy hh) (fun _=>?_);refine⟨_,rfl,y,aA,dy,_,_,rfl,F.ob,Fc.cl,Fc.way,qF d.worth wy iY pr,aD Mi,fun e he=>⟨wy,e,kG,[],fun _=>true,rfl,rfl, .of (av.upd he _ _ F.hw), .of ae,(fun j x y _ h=>by simp at h),_,rfl,?_⟩⟩;refine ba (fun hh=>V' hh (by simpa using h1)) (fun _=>?_);have s1:=av.upd (o:= .lst []) he;generalize upd H e (.lst [])=H1 at s1;refine⟨_,rfl,y,aA,dy,_,_,rfl,s1 _ _ F.ob,Fc.cl,Fc.row,As d.worth wy iY pr,iY,rfl,⟨_, .of (s1 _ _ F.hr)⟩,?_⟩;refine bW (xs:=d.row.map V.int) (fun i σ H'=>(∃u,σ=[sR y,u])∧H'=H1) ⟨⟨_,rfl⟩,rfl⟩ ?_ ?_ ?_
  ·rintro i σ H' _ ⟨_,rfl⟩;exact .of (s1 _ _ F.hr)
  ·rintro i v σ H' hv ⟨⟨u,rfl⟩,rfl⟩;rw[List.getElem?_map]at hv;obtain⟨z,_,rfl⟩:=Option.map_eq_some_iff.mp hv;refine⟨_,rfl,_,rfl,_,rfl,?_⟩;refine gM ?_;exact⟨⟨_,rfl⟩,rfl⟩
  ·rintro σ H' ⟨⟨u,rfl⟩,rfl⟩;exact q _ s1
theorem gw:aL ["_law_case_here","_law_way","_law_k","_law_i","_law_j"] ["_law_case_here","_law_way"] (au gZ):=⟨rfl,rfl,rfl,by decide+kernel,rfl,by decide+kernel,by decide+kernel⟩
include T bG in
theorem ue{f:Addr}{fd:FuncData}(F:jN K "_law_is_way" "_law_is_way" gZ f fd):aZ P w K mg base (dz P w) true 2 f fd ["_law_case_here","_law_way"] tE:=by
 refine F.gH gw Wa (fun bV A outer s H vs Q E hr h hX=>?_)
 ·obtain⟨a,w,c,f,g,m,l,us,ws,ps,rfl,_⟩:=h;rfl
 ·obtain⟨a,w,c,x1,x2,m,l,us,ws,ps,rfl,C1,hw,P1,hlen,q⟩:=h;have hu:=hr.units;have JJ:(A.deeper (Zp "_law_is_way" (au gZ) f bV)).units<cLine:=by lia
  have Io:=P1.1;have kT:=C1.ca;have zF:=C1.nu;have lx:(c.xs.map V.str).length=c.xs.length:=List.length_map ..;have ly:(c.ys.map V.str).length=c.ys.length:=List.length_map ..;refine⟨_,(OA (Z5 (Μ ZE T.fJ (ZU (ZW (aJ K) (ZU Rl)))) (ZT (2) gw.nd) (OA (@zH _ _ _ _ _ _ (Z0 Rl (pv 2)) (Β K (2) (ZG (ZT (3) gw.nd) (ZG (ZT (4) gw.nd) fF))) (XR) (XR) (XR)) (OA (Zo (Zj (Zi (Y7 mQ W5 ai) (Zi (Y7 mQ Xr ai) (Zi (Y7 A8 W5 (ZW (aJ K) (ZU (Z6 ai)))) (@pw_or1 _ _ _ _ (Y7 A8 Xr (ZW (aJ K) (ZU (Z6 ai))))))))) aQ) (OA (Zo (Z' (@lB _ _ _ _ _ (ZV bG aR (Z1 (Z7 W5) (θ (Z7 Xr)))))) aQ) (Lw (Zo (Zj (@pw_and _ _ _ _ _ _ _ (Y7 rl W4 ai) (@pw_and1 _ _ _ _ (Zj (Zi (Y7 A7 W5 (ZK (bH K) (Z0 Rl (Z2 bI W4 ai)) ai)) (@pw_or1 _ _ _ _ (Y7 A7 Xr (ZK (bH K) (Z0 Rl (Z2 bI W4 ai)) ai)))))))) aQ)))))) (Lw (X' (@iH _ _ _ _ _ _ _ _ (tm K JJ) (pv 1) (ZC af) (aV _))))),?_⟩;refine⟨_,rfl,w,_,rfl, .inl (.of hw),(ws.length:Int),rfl,by lia,by lia,?_⟩;refine fo (fun i σ H'=>(∃(u1 u2 u3:Option V),σ=[sR a,sR w,u1,u2,u3])∧H'=H∧lH c ps i) ⟨⟨_,_,_,rfl⟩,rfl,fun k hk=>by lia⟩ ?_ ?_
  ·rintro i σ H' hi ⟨⟨u1,u2,u3,rfl⟩,e0,Hf⟩;subst e0;have hi:i<ps.length:=by lia
   obtain⟨tt,ye,uD⟩:=P1.K5 hi;have bad:dC c ps i=false→Q (.bl false) H':=fun e=>by
    have:=q H' (.refl _);rw[EL hi e]at this;exact this
   have Gg:c.pw (pr ps i)=none→Q (.bl false) H':=fun e=>bad (by simp[dC,e])
   refine⟨_,rfl,_,rfl,w,_,_,_,rfl,rfl, .of hw,Ms ye,tt,_,rfl, .of uD,rfl,_,_,rfl,_,_,rfl,rfl,?_⟩;refine⟨_,rfl,_,_,rfl,rfl,_,rfl,?_⟩;refine ba (fun h1=>?_) (fun h1=>?_)
   ·have h1:(pr ps i).1<0:=by simpa using h1
    refine jO ?_;exact Gg (Case.pw_out D9)
   have h1:¬(pr ps i).1<0:=by simpa using h1
   refine⟨_,rfl,_,_,rfl,rfl,_,rfl,?_⟩;refine ba (fun h2=>?_) (fun h2=>?_)
   ·have h2:(pr ps i).2<0:=by simpa using h2
    refine jO ?_;exact Gg (Case.pw_out D9)
   have h2:¬(pr ps i).2<0:=by simpa using h2
   refine⟨_,rfl,_,rfl,a,_,0,_,rfl,rfl, .of kT,R6 (j:=0),x1,_,rfl, .inl (.of C1.fi),_,_,rfl,rfl,_,rfl,?_⟩;rw[lx];refine ba (fun h3=>?_) (fun h3=>?_)
   ·have h3:(c.xs.length:Int)≤(pr ps i).1:=by simpa using h3
    refine jO ?_;exact Gg (Case.pw_out D9)
   have h3:¬(c.xs.length:Int)≤(pr ps i).1:=by simpa using h3
   refine⟨_,rfl,_,rfl,a,_,1,_,rfl,rfl, .of kT,R6 (j:=1),x2,_,rfl, .inl (.of C1.se),_,_,rfl,rfl,_,rfl,?_⟩;rw[ly];refine ba (fun h4=>?_) (fun h4=>?_)
   ·have h4:(c.ys.length:Int)≤(pr ps i).2:=by simpa using h4
    exact Gg (Case.pw_out D9)
   have h4:¬(c.ys.length:Int)≤(pr ps i).2:=by simpa using h4
   obtain⟨x,lp,yg⟩:=vM (xs:=c.xs) (i:=(pr ps i).1) (by lia) (by lia);obtain⟨y,Gy,DG⟩:=vM (xs:=c.ys) (i:=(pr ps i).2) (by lia) (by lia);have ep:c.pw (pr ps i)=cY c.same c.fs x y:=Case.pw_of lp Gy;refine⟨_,rfl,a,_,0,_,rfl,rfl, .of kT,R6 (j:=0),_,rfl,x1,_,_,_,rfl,rfl, .of C1.fi,yg,_,rfl,a,_,1,_,rfl,rfl, .of kT,R6 (j:=1),_,rfl,x2,_,_,_,rfl,rfl, .of C1.se,DG,_,rfl,a,_,2,_,rfl,rfl, .of kT,R6 (j:=2),m,_,0,_,rfl,rfl, .of zF,R6 (j:=0),_,rfl,a,_,3,_,rfl,rfl, .of kT,R6 (j:=3),x,y,c.same,l,us,c.fs,rfl,C1.ne,C1.tr,_,rfl,?_⟩;rw[←ep];refine ba (fun h5=>?_) (fun h5=>?_)
   ·refine Gg ?_;cases e:c.pw (pr ps i)with
    |none=>rfl
    |some v=>rw[e]at h5;simp[bB]at h5
   have h5:(c.pw (pr ps i)).isSome=true:=by
    cases e:c.pw (pr ps i)with
    |none=>rw[e]at h5;simp[bB]at h5
    |some v=>rfl
   refine⟨_,rfl,_,_,rfl,rfl,_,rfl,?_⟩;refine ba (fun h6=>?_) (fun h6=>?_)
   rotate_left
   ·have h6:i=0:=by
     have:¬(0:Int)<0+(i:Int):=by simpa using h6
     lia
    refine gM ?_;exact⟨⟨_,_,_,rfl⟩,rfl,Hf.next (by simp[dC,h5,h6]at h5⊢;exact h5)⟩
   have h6:0<i:=by
    have:(0:Int)<0+(i:Int):=by simpa using h6
    lia
   obtain⟨j,rfl⟩:∃j,i=j+1:=⟨i-1,by lia⟩
   have e1:((0+((j+1:Nat):Int))-1)=((j:Nat):Int):=by lia
   obtain⟨t2,ON,FC⟩:=P1.K5 (show j<ps.length by lia);have Di:so ws ((0+((j+1:Nat):Int))-1)=some (.ref t2):=by rw[e1];exact ar ON
   refine⟨_,rfl,_,rfl,_,rfl,_,_,rfl,rfl,w,_,_,_,rfl,rfl, .of hw,Di,t2,_,0,_,rfl,rfl, .of FC,R6 (j:=0),_,_,rfl,rfl,_,rfl,?_⟩;refine ba (fun h7=>?_) (fun h7=>?_)
   ·have h7:(pr ps (j+1)).1≤(pr ps j).1:=by simpa using h7
    refine jO ?_;refine bad ?_;have:stepOk (pr ps j) (pr ps (j+1))=false:=by simp[stepOk];lia
    simp[dC,this]
   have h7:¬(pr ps (j+1)).1≤(pr ps j).1:=by simpa using h7
   refine⟨_,rfl,_,rfl,_,rfl,_,_,rfl,rfl,w,_,_,_,rfl,rfl, .of hw,Di,t2,_,1,_,rfl,rfl, .of FC,R6 (j:=1),_,_,rfl,rfl,_,rfl,?_⟩;refine ba (fun h8=>?_) (fun h8=>?_)
   ·have h8:(pr ps (j+1)).2≤(pr ps j).2:=by simpa using h8
    refine bad ?_;have:stepOk (pr ps j) (pr ps (j+1))=false:=by simp[stepOk];lia
    simp[dC,this]
   have h8:¬(pr ps (j+1)).2≤(pr ps j).2:=by simpa using h8
   refine⟨⟨_,_,_,rfl⟩,rfl,Hf.next ?_⟩;have:stepOk (pr ps j) (pr ps (j+1))=true:=by simp[stepOk];lia
   simp[dC,h5,this]
  ·rintro σ H' ⟨⟨u1,u2,u3,rfl⟩,e0,Hf⟩;subst e0;have e:((ws.length:Nat):Int).toNat=ps.length:=by lia
   rw[e]at Hf;refine⟨_,rfl,aD Mi,fun pn MW=>⟨w,pn,_,rfl,rfl, .of (av.upd MW _ _ hw), .of ae,?_⟩⟩;have hq:=q _ (av.upd (o:= .lst []) MW);by_cases hz:ps=[]
   ·subst hz;have:ws=[]:=List.length_eq_zero_iff.mp Io;subst this;exact hq
   ·rw[mh hz Hf]at hq;have:ws≠[]:=fun z=>hz (by subst z;exact List.length_eq_zero_iff.mp Io.symm)
    have:(!ws.isEmpty)=true:=by simpa using this
    rw[this];exact hq
theorem fD:aL ["_law_case_here","_law_shut","_law_found","_law_i","_law_j","_law_gain"] ["_law_case_here","_law_shut"] (au iP):=⟨rfl,rfl,rfl,by decide+kernel,rfl,by decide+kernel,by decide+kernel⟩
include T bG in
theorem uX{f:Addr}{fd:FuncData}(F:jN K "_law_spots" "_law_spots" iP f fd):aZ P w K mg base (dz P w) true 2 f fd ["_law_case_here","_law_shut"] t5:=by
 refine F.gH fD Wa (fun bV A outer s H vs Q E hr h hX=>?_)
 ·obtain⟨a,s0,c,f,g,m,l,us,ws,sh,rfl,_⟩:=h;rfl
 ·obtain⟨a,s0,c,x1,x2,m,l,us,ws,sh,rfl,C1,hs,P1,hx,hy,q⟩:=h;have hu:=hr.units;have hu:(A.deeper (Zp "_law_spots" (au iP) f bV)).units+1<cLine:=by lia
  have lx:(c.xs.map V.str).length=c.xs.length:=List.length_map ..;have ly:(c.ys.map V.str).length=c.ys.length:=List.length_map ..;refine⟨_,(OA (ZS (2) fD.nd (ZC af)) (OA (Z5 (Μ ZE T.fJ (ZU (ZW (aJ K) (ZU (Z6 ai))))) (ZT (3) fD.nd) (Lw (Z5 (Μ ZE T.fJ (ZU (ZW (aJ K) (ZU (Z6 ai))))) (ZT (4) fD.nd) (OA (ZS (5) fD.nd (ZV bG aR (Z1 (Z7 W5) (θ (Z7 Xr))))) (Lw (Yh (Zj (@pw_and _ _ _ _ _ _ _ (Z' (@ot _ _ _ _ _ (pv 5))) (@pw_and1 _ _ _ _ (@aS _ _ _ _ _ _ _ _ (m3 K hu) (Zm (Z1 W5 (ZU Xr))) (pv 1) (by with_unfolding_all rfl))))) (Lw (Y_ (ZZ K bR W4 (ZU (Zm (Z1 W5 (Z1 Xr (ZU (pv 5))))))))) aQ)))))) (Lw (X' W4)))),?_⟩;refine⟨aD Mi,fun b hb=>?_⟩;have C2:=C1.keep (av.upd (o:= .lst []) hb);refine⟨_,rfl,a,_,0,_,rfl,rfl, .of C2.ca,R6 (j:=0),x1,_,rfl, .inl (.of C2.fi),((c.xs.map V.str).length:Int),rfl,by lia,by lia,?_⟩;refine fo (fun i σ H'=>(∃u1 u2 u3,σ=[sR a,sR s0,sR b,u1,u2,u3])∧av H H'∧∃xs,H' b=some (.lst xs)∧DF H' xs (ka c sh i)) ⟨⟨_,_,_,rfl⟩,UO hb,[],ae, .nil⟩ ?_ ?_
  ·rintro i σ H' hi ⟨⟨u1,u2,u3,rfl⟩,s1,xs,jT,S1⟩;have hi:i<c.xs.length:=by rw[lx]at hi;lia
   have C3:=C1.keep s1;refine⟨_,rfl,a,_,1,_,rfl,rfl, .of C3.ca,R6 (j:=1),x2,_,rfl, .inl (.of C3.se),((c.ys.map V.str).length:Int),rfl,by lia,by lia,?_⟩;refine fo (fun j σ H'=>(∃u2 u3,σ=[sR a,sR s0,sR b,sI ((0+(i:Int))),u2,u3])∧av H H'∧∃xs,H' b=some (.lst xs)∧DF H' xs (ka c sh i++lL c sh i j)) ⟨⟨_,_,rfl⟩,s1,xs,jT,by rw[lL,List.append_nil];exact S1⟩ ?_ ?_
   ·clear s1 jT S1 xs u1 u2 u3 C3 H';rintro j σ H' hj ⟨⟨u2,u3,rfl⟩,s1,xs,jT,S1⟩;have hj:j<c.ys.length:=by rw[ly]at hj;lia
    have C3:=C1.keep s1;obtain⟨x,lp,yg⟩:=vM (xs:=c.xs) (i:=0+(i:Int)) (by lia) (by lia);obtain⟨y,Gy,DG⟩:=vM (xs:=c.ys) (i:=0+(j:Int)) (by lia) (by lia);have ez:(0+(i:Int),0+(j:Int))=aP (i,j):=Prod.ext (by simp[aP]) (by simp[aP]);have ep:c.pw (aP (i,j))=cY c.same c.fs x y:=by rw[←ez];exact Case.pw_of lp Gy
    have sl:=S1.1;have l1:=vV c sh i;have l2:=qJ c sh i j;have l3:i*c.ys.length≤50*50:=Nat.mul_le_mul D9 hy;rw[List.length_append]at sl;refine⟨_,rfl,a,_,0,_,rfl,rfl, .of C3.ca,R6 (j:=0),_,rfl,x1,_,_,_,rfl,rfl, .of C3.fi,yg,_,rfl,a,_,1,_,rfl,rfl, .of C3.ca,R6 (j:=1),_,rfl,x2,_,_,_,rfl,rfl, .of C3.se,DG,_,rfl,a,_,2,_,rfl,rfl, .of C3.ca,R6 (j:=2),m,_,0,_,rfl,rfl, .of C3.nu,R6 (j:=0),_,rfl,a,_,3,_,rfl,rfl, .of C3.ca,R6 (j:=3),x,y,c.same,l,us,c.fs,rfl,C3.ne,C3.tr,?_⟩;rw[←ep];refine⟨_,rfl,_,rfl,?_⟩;cases e:c.pw ZD with
    |none=>
     refine ba Τ (fun _=>?_);refine gM ?_;refine⟨⟨_,_,rfl⟩,s1,xs,jT,?_⟩;have:oh c sh (aP (i,j))=none:=by unfold oh;split;rfl;exact e
     rw[lL,this,List.append_nil];exact S1
    |some w=>
     refine ba (fun _=>?_) (fun hh=>V' (by simp[bB]) hh);refine⟨_,rfl,_,rfl,aD Mi,fun p hp=>?_⟩;have s2:=s1.trans (av.upd (o:= .tup [.int (0+(i:Int)), .int (0+(j:Int))]) hp);have xl:=av.upd (o:= .tup [.int (0+(i:Int)), .int (0+(j:Int))]) hp _ _ jT;have S2:=S1.cA (cO.same (av.upd (o:= .tup [.int (0+(i:Int)), .int (0+(j:Int))]) hp));refine⟨_,rfl,p,s0,(0+(i:Int),0+(j:Int)),ws,sh,rfl,rfl,ae, .of (s2 _ _ hs),P1.same s2,_,rfl,?_⟩;generalize upd H' p (.tup [.int (0+(i:Int)), .int (0+(j:Int))])=H2 at s2 xl S2;rw[ez];refine ba (fun h1=>?_) (fun h1=>?_)
     ·have h1:aP (i,j)∉sh:=by simpa using h1
      refine⟨_,rfl, .inl ⟨rfl,_, .of xl⟩,_,rfl,_,rfl,_,rfl,aD Mi,fun t ht=>⟨b,xs,_,rfl,rfl,av.upd ht _ _ xl,a_ D9,⟨_,_,rfl⟩,(s2.trans (UO ht)).eR hb,_,ae,?_⟩⟩;have e2:oh c sh (aP (i,j))=some w:=by unfold oh;rw[Dt h1];exact e
      rw[lL,e2,←List.append_assoc];have S3:DF (upd H2 t (.tup [.int (0+(i:Int)), .int (0+(j:Int)), .int w])) (xs++[.ref t]) ((ka c sh i++lL c sh i j)++[(aP (i,j),w)]):=(S2.cA (cO.same (UO ht))).snoc (by rw[←ez];exact ae);exact S3.cA (cO.lst (av.upd ht _ _ xl))
     ·have h1:aP (i,j)∈sh:=by simpa using h1
      refine⟨⟨_,_,rfl⟩,s2,xs,xl,?_⟩;have:oh c sh (aP (i,j))=none:=by unfold oh;rw[HB h1]
      rw[lL,this,List.append_nil];exact S2
   ·rintro σ H2 ⟨⟨u2,u3,rfl⟩,s2,Gf,xl,S2⟩;rw[ly,Int.toNat_natCast]at S2;exact⟨⟨_,_,_,rfl⟩,s2,Gf,xl,S2⟩
  ·rintro σ H2 ⟨⟨u1,u2,u3,rfl⟩,s2,Gf,xl,S2⟩;rw[lx,Int.toNat_natCast]at S2;exact⟨_,rfl,q _ b _ s2 hb xl S2⟩
variable(gy:bM P w K mg base true 3 "_law_finding" ["_law_found"] (t6 aA))
variable(hV:bM P w K mg base true 2 "_law_is_way" ["_law_case_here","_law_way"] tE)
variable(iV:bM P w K mg base true 2 "_law_worth" ["_law_case_here","_law_way"] qv)
variable(iW:bM P w K mg base true 2 "_law_spots" ["_law_case_here","_law_shut"] t5)
theorem cz:aL ["_law_case_here","_law_told","_law_held","_law_one","_law_pair_here","_law_i","_law_j","_law_gain"] ["_law_case_here","_law_told"] (au g7):=⟨rfl,rfl,rfl,by decide+kernel,rfl,by decide+kernel,by decide+kernel⟩
include T Fc gy hV iV iW in
theorem uf{f:Addr}{fd:FuncData}(F:jN K "_law_anchor" "_law_anchor" g7 f fd):aZ P w K mg base (dz P w) true 4 f fd ["_law_case_here","_law_told"] (qK aA):=by
 refine F.gH cz Wa (fun bV A outer s H vs Q E hr h hX=>?_)
 ·obtain⟨a,t,c,f,g,m,l,us,ws,es,rfl,_⟩:=h;rfl
 ·obtain⟨b,t,c,x1,x2,m,l,us,vs,es,rfl,C3,ok,ht,FL,TD,q⟩:=h;have hu:=hr.units;have hu:(A.deeper (Zp "_law_anchor" (au g7) f bV)).units+1<cLine:=by lia
  have Y3:=ok.x;have Y4:=ok.y;have Pu:=FL.1;refine⟨_,(UN (ZS (2) cz.nd j1) (UN (Z5 (ZH K Rl) (ZT (3) cz.nd) (UN (Zo (Zj (Zi (@dH _ _ _ _ (ZR (ZV gy aR (ZU W5)))) (Zi (@dH _ _ _ _ (ZR (ZV hV aR (Z1 V7 (ZU (Zx K W5)))))) (@pw_or1 _ _ _ _ (Y7 mQ (Zx K W5) (Z7 ai)))))) aQ) (UN (Zo (Y7 vt (ZV iV aR (Z1 V7 (ZU (Zx K W5)))) (Zx K W5)) aQ) (UN (Z5 (ZH K (Zx K W5)) (ZT (4) cz.nd) (UN (Zo (Z' (@qm _ _ _ _ _ hu Xr (pv 2))) aQ) (Lw (@ku _ _ _ _ _ _ _ _ _ hu W4 (pv 4) eI ZE)))) (Lw (Z5 (ZH K (Zx K W5)) (ZT (4) cz.nd) (Lw (Zo (@aS _ _ _ _ _ _ _ _ (m3 K hu) (pv 4) (Zx K W5) (by with_unfolding_all rfl)) aQ)))))))) (UN (Z5 (ZH K (ZV iW aR (Z1 V7 (ZU (ZC af))))) (Β K (3) (ZG (ZT (5) cz.nd) (ZG (ZT (6) cz.nd) (ZG (ZT (7) cz.nd) fF)))) (Lw (Zo (Zj (@pw_and _ _ _ _ _ _ _ (Y7 A8 (pv 7) (Z7 ai)) (@pw_and1 _ _ _ _ (Z' (@vD _ _ _ _ _ hu (Zm (Z1 (pv 5) (ZU (pv 6)))) (pv 2)))))) aQ))) (Lw (X' eI))))),?_⟩;refine⟨fun σ H4=>∃d,σ=[sR b,sR t,sR d,none,none,none,none,none]∧av H H4∧H d=none∧H4 d=some (.dT []),fun d hd=>⟨d,rfl,UO hd,hd,ae⟩,?_⟩;rintro σ H4 ⟨D,rfl,s4,MJ,hD⟩;refine⟨fun σ H5=>(∃u1 u2,σ=[sR b,sR t,sR D,u1,u2,none,none,none])∧av H H5∧∃kvs,H5 D=some (.dT kvs)∧mW kvs (lM es es.length),?_,?_⟩
  ·refine⟨_,rfl,t,rfl,⟨_, .of (s4 _ _ ht)⟩,?_⟩;refine bW (xs:=vs) (fun k σ H5=>(∃u1 u2,σ=[sR b,sR t,sR D,u1,u2,none,none,none])∧av H H5∧∃kvs,H5 D=some (.dT kvs)∧kvs.length≤(lM es k).length∧mW kvs (lM es k)) ⟨⟨_,_,rfl⟩,s4,[],hD,Nat.zero_le _,fun p=>by simp[sT,lM]⟩ ?_ ?_ ?_
   ·rintro k σ H5 _ ⟨_,s5,_⟩;exact .of (s5 _ _ ht)
   ·rintro k v σ H5 hv ⟨⟨u1,u2,rfl⟩,s5,kvs,GC,SR,MY⟩;have hk:k<es.length:=by rw[←Pu];exact(ZX hv).1
    have ek:es[k]?=some es[k]:=by simp[hk]
    generalize es[k]=d at ek;obtain⟨y,dy,wy,iY,pr,kG,iq,e1,F3⟩:=FL.2 k d ek;rw[hv]at e1;cases e1;have iA:=TD.iA d (WI ek);have FF:∀{H'},av H H'→vU (fun _=>True) H' aA y d dy wy iY pr kG iq:=fun{H'} s'=>F3.keep (fun b o _ e=>s' b o e) (cO.same s') fun _ h=>h
    have iw:=FU iA.way;have nd:=j_ iA.qB;have pl:=TD.AB ok (k+1);rw[o6 ek,List.length_append]at pl;have wl:d.way.length≤2500:=by
     have h6:=len_sub d.way d.pairs (iA.way.up.imp fun{a b} h e=>by
      rw[e]at h;have:=h.1
      lia) iA.sub
     lia
    refine⟨fun σ H6=>σ=[sR b,sR t,sR D,sR y,u2,none,none,none]∧av H5 H6,?_,?_⟩
    ·have F:=FF s5;refine⟨_,rfl,y,_,d,dy,wy,iY,pr,kG,iq,rfl,F,by rw[iA.row,HZ],iA.way.ne,fun H6 s6=>⟨_,rfl,?_⟩⟩;refine gM ?_;have F:=FF (s5.trans s6);refine⟨_,rfl,_,rfl,y,aA,dy,_,_,rfl,F.ob,Fc.cl,Fc.way,qF d.worth wy iY pr,b,wy,c,x1,x2,m,l,us,kG,d.way,rfl,C3.keep (s5.trans s6),F.hw,F.pw,by lia,fun H7 s7=>⟨_,rfl,?_⟩⟩;rw[iw];refine gM ?_;have Mc:=s6.trans s7;have F:=FF (s5.trans Mc);have C7:=C3.keep (s5.trans Mc);have kT:=C7.ca;refine⟨_,rfl,y,aA,dy,_,_,rfl,F.ob,Fc.cl,Fc.worth,j8 d.worth wy iY pr,_,rfl,b,_,2,_,rfl,rfl, .of kT,R6 (j:=2),m,_,3,_,rfl,rfl, .of C7.nu,R6 (j:=3),_,_,rfl,rfl,_,rfl,?_⟩;have:=iA.least;exact ba (fun hh=>V' hh Zc) (fun _=>⟨rfl,Mc⟩)
    rintro σ H6 ⟨rfl,s6⟩;have s7:=s5.trans s6;have DJ:=s6 _ _ GC;have F:=FF s7;refine⟨fun σ H7=>σ=[sR b,sR t,sR D,sR y,u2,none,none,none]∧H7=H6,?_,?_⟩
    ·refine⟨_,rfl,_,rfl,y,aA,dy,_,_,rfl,F.ob,Fc.cl,Fc.way,qF d.worth wy iY pr,b,wy,c,x1,x2,m,l,us,kG,d.way,rfl,C3.keep s7,ok.num,F.hw,F.pw,by lia,iw,_,rfl,y,aA,dy,_,_,rfl,F.ob,Fc.cl,Fc.worth,j8 d.worth wy iY pr,rfl,_,rfl,?_⟩;rw[(HY iw).2,iA.worth];exact ba (fun hh=>Zy hh) (fun _=>⟨rfl,rfl⟩)
    rintro σ H7 ⟨rfl,rfl⟩;refine⟨fun σ H8=>(∃u3,σ=[sR b,sR t,sR D,sR y,u3,none,none,none])∧av H H8∧∃kvs,H8 D=some (.dT kvs)∧kvs.length≤(lM es (k+1)).length∧mW kvs (lM es (k+1)),?_,?_⟩
    ·refine⟨_,rfl,y,aA,dy,_,_,rfl,F.ob,Fc.cl,Fc.pairs,jb d.worth wy iY pr,pr,rfl,⟨_, .of F.hp⟩,?_⟩;refine bW (xs:=iq) (fun i σ H8=>(∃u3,σ=[sR b,sR t,sR D,sR y,u3,none,none,none])∧av H H8∧∃kvs,H8 D=some (.dT kvs)∧kvs.length≤(lM es k).length+i∧mW kvs (lM es k++d.pairs.take i)) ⟨⟨_,rfl⟩,s7,kvs,DJ,by lia,by simpa using MY⟩ ?_ ?_ ?_
     ·rintro i σ H8 _ ⟨_,s8,_⟩;exact .of (FF s8).hp
     ·rintro i v σ H8 hv ⟨⟨u,rfl⟩,s8,ID,GD,Px,Gh⟩;have hi:i<d.pairs.length:=by rw[←F3.pp.1];exact(ZX hv).1
      have ei:d.pairs[i]?=some d.pairs[i]:=by simp[hi]
      generalize d.pairs[i]=g at ei;obtain⟨tt,g1,g2⟩:=F3.pp.2 i g ei;rw[hv]at g1;cases g1;have hn:g∉lM es k++d.pairs.take i:=fun z=>(List.mem_append.mp z).elim (TD.Ia ek (WI ei)) (Ib nd ei)
      refine⟨fun σ H9=>σ=[sR b,sR t,sR D,sR y,sR tt,none,none,none]∧H9=H8,?_,?_⟩
      ·refine⟨_,rfl,_,rfl,D,_,rfl, .t (k:=a8 g) GD (s8 _ _ g2),_,rfl,?_⟩;rw[Gh];exact ba (fun hh=>V' (by simpa using hh) hn) (fun _=>⟨rfl,rfl⟩)
      rintro σ H9 ⟨rfl,rfl⟩;refine⟨_,rfl,_,rfl,D,_,rfl, .t (k:=a8 g) GD (s8 _ _ g2) (a_ D9),⟨_,rfl⟩,s8.eR MJ,_,ae,ZN (eV _ _ _) (by lia),?_⟩;have:=FW Gh g (.bl true);rw[List.append_assoc]at this;rw[List.take_succ,ei];exact this
     ·rintro σ H8 ⟨Uj,s8,ID,GD,Px,Gh⟩;rw[F3.pp.1]at Px;rw[F3.pp.1,List.take_length]at Gh;rw[o6 ek];exact⟨Uj,s8,ID,GD,by rw[List.length_append];exact Px,Gh⟩
    rintro σ H8 ⟨⟨u4,rfl⟩,s8,ID,GD,Px,Gh⟩;have F:=FF s8;refine⟨_,rfl,y,aA,dy,_,_,rfl,F.ob,Fc.cl,Fc.way,qF d.worth wy iY pr,wy,rfl,⟨_, .of F.hw⟩,?_⟩;refine bW (xs:=kG) (fun i σ H9=>(∃u3,σ=[sR b,sR t,sR D,sR y,u3,none,none,none])∧H9=H8) ⟨⟨_,rfl⟩,rfl⟩ ?_ ?_ ?_
    ·rintro i σ H9 _ ⟨_,rfl⟩;exact .of F.hw
    ·rintro i v σ H9 hv ⟨⟨u,rfl⟩,rfl⟩;have hi:i<d.way.length:=by rw[←F.pw.1];exact(ZX hv).1
     have ei:d.way[i]?=some d.way[i]:=by simp[hi]
     generalize d.way[i]=g at ei;obtain⟨tt,g1,g2⟩:=F.pw.2 i g ei;rw[hv]at g1;cases g1;refine⟨_,rfl,_,rfl,y,aA,dy,_,_,rfl,F.ob,Fc.cl,Fc.pairs,jb d.worth wy iY pr,tt,pr,g,iq,d.pairs,rfl,rfl,g2, .of F.hp,F.pp,_,rfl,?_⟩;have:=iA.sub g (WI ei);exact ba (fun hh=>V' hh (by simp[this])) (fun _=>⟨⟨_,rfl⟩,rfl⟩)
    ·rintro σ H9 ⟨⟨u,rfl⟩,rfl⟩;exact⟨⟨_,_,rfl⟩,s8,ID,GD,Px,Gh⟩
   ·rintro σ H5 ⟨Uj,s5,kvs,GC,_,MY⟩;rw[Pu]at MY;exact⟨Uj,s5,kvs,GC,MY⟩
  rintro σ H5 ⟨⟨u1,u2,rfl⟩,s5,kvs,GC,MY⟩;refine⟨fun σ H4=>av H H4,?_,fun σ H4 s4=>q _ s4⟩;refine⟨_,rfl,aD Mi,fun e he=>?_⟩;have s6:=s5.trans (av.upd (o:= .lst []) he);refine⟨b,e,c,x1,x2,m,l,us,[],[],rfl,C3.keep s6,ae, .nil,by lia,by lia,fun H7 r ws s7 rD h7 S7=>⟨r,rfl,⟨_, .of h7⟩,?_⟩⟩;have V8:=s6.trans s7;have DJ:=s7 _ _ (av.upd (o:= .lst []) he _ _ GC);refine bW (xs:=ws) (fun k σ H8=>(∃v1 v2 v3,σ=[sR b,sR t,sR D,u1,u2,v1,v2,v3])∧av H7 H8) ⟨⟨_,_,_,rfl⟩, .refl _⟩ ?_ ?_ (fun _ _ ⟨_,s8⟩=>V8.trans s8)
  ·rintro k σ H8 _ ⟨_,s8⟩;exact .of (s8 _ _ h7)
  ·rintro k v σ H8 hv ⟨⟨v1,v2,v3,rfl⟩,s8⟩;have hk:k<(ka c [] c.xs.length).length:=by rw[←S7.1];exact(ZX hv).1
   have ek:(ka c [] c.xs.length)[k]?=some (ka c [] c.xs.length)[k]:=by simp[hk]
   generalize (ka c [] c.xs.length)[k]=x at ek;obtain⟨tt,k1,k2⟩:=S7.2 k x ek;rw[hv]at k1;cases k1;have Y5:=vX (WI ek);have C8:=C3.keep (V8.trans s8);have kT:=C8.ca;refine⟨tt,_,rfl, .of (s8 _ _ k2),rfl,_,_,rfl,_,_,rfl,_,_,rfl,rfl,?_⟩;refine⟨_,rfl,_,rfl,b,_,2,_,rfl,rfl, .of kT,R6 (j:=2),m,_,3,_,rfl,rfl, .of C8.nu,R6 (j:=3),_,_,rfl,rfl,_,rfl,?_⟩;refine ba (fun h1=>?_) (fun _=>?_)
   ·have h1:c.least≤x.2:=by simpa using h1
    refine⟨_,rfl,_,rfl,aD Mi,fun p hp=>⟨_,rfl,D,_,rfl, .t (k:=a8 x.1) (av.upd hp _ _ (s8 _ _ DJ)) ae,_,rfl,?_⟩⟩;rw[MY];obtain⟨d,hd,hq⟩:=TD.pair Y5 h1;refine ba (fun hh=>V' hh (by simp;exact LY hd hq)) (fun _=>?_);exact⟨⟨_,_,_,rfl⟩,s8.trans (UO hp)⟩
   ·refine gM ?_;exact⟨⟨_,_,_,rfl⟩,s8⟩
variable(mE:bM P w K mg base true 8 "compare" ["first","second","terms"] (xm aU aA kb))
variable(iX:bM P w K mg base true 7 "_law_terms" ["_law_case_here"] (qt aU))
theorem uY:aL ["_law_case_here"] ["_law_case_here"] (au kO):=⟨rfl,rfl,rfl,by decide+kernel,rfl,by decide+kernel,by decide+kernel⟩
include T mE iX in
theorem uZ{f:Addr}{fd:FuncData}(F:jN K "_law_asked" "_law_asked" kO f fd):aZ P w K mg base (dz P w) true 9 f fd ["_law_case_here"] (xp aA):=by
 refine F.gH uY Wa (fun bV A outer s H vs Q E hr h hX=>?_)
 ·obtain⟨a,c,f,g,m,l,us,most,rfl,_⟩:=h;rfl
 ·obtain⟨a,c,x1,x2,m,l,us,most,rfl,C1,ok,hm,uB,q⟩:=h;refine⟨_,(Lw (X' (ZV mE aR (Z1 (Ψ (gU K) (by exact rfl) T.lE PyProof.Rows.Boot.«list» (ZU (Z6 ai))) (Z1 (Ψ (gU K) (by exact rfl) T.lE PyProof.Rows.Boot.«list» (ZU (Z6 ai))) (ZU (ZV iX aR (ZU V7)))))))),?_⟩;have kT:=C1.ca;refine⟨_,rfl,a,_,0,_,rfl,rfl, .of kT,R6 (j:=0),x1,_,rfl, .inl (.of C1.fi),fun y1 Gy=>?_⟩;have s1:=av.upd (o:= .lst (c.xs.map V.str)) Gy;have Uk:=s1 _ _ kT;refine⟨_,rfl,a,_,1,_,rfl,rfl, .of Uk,R6 (j:=1),x2,_,rfl, .inl (.of (s1 _ _ C1.se)),fun y2 DG=>?_⟩;have s2:=s1.trans (av.upd (o:= .lst (c.ys.map V.str)) DG);refine⟨_,rfl,a,c,x1,x2,m,l,us,most,rfl,C1.keep s2,ok,fun H3 t s3 TF=>?_⟩;have Iu:=s2.trans s3;have Y3:=ok.x;have Y4:=ok.y;refine⟨y1,y2,t,c,rfl,s3 _ _ (av.upd DG _ _ ae),s3 _ _ ae,TF,by lia,by lia,fun es TD H4 r vs s4 hr h4 FL=>?_,fun ds f2 RC hl H4 s4=>?_⟩
  ·exact q es TD H4 r vs (Iu.trans s4) (Iu.free hr) h4 (FL.keep (fun _ _ _ h=>h) (fun _ _ h=>h) fun b hb=>trivial)
  ·have:=uB _ _ RC
   lia
variable(jC:bM P w K mg base true 3 "_law_case" ["_law_script","_law_most"] (wV K))
variable(jD:bM P w K mg base true 2 "_law_calm" ["_law_case_here"] xn)
variable(gz:bM P w K mg base true 9 "_law_asked" ["_law_case_here"] (xp aA))
variable(fE:bM P w K mg base true 4 "_law_anchor" ["_law_case_here","_law_told"] (qK aA))
theorem jW:aL ["_law_script","_law_case_here","_law_other","_law_told","_law_back","_law_high","_law_end","_law_due","_law_found","_law_k"] ["_law_script"] (au lT):=⟨rfl,rfl,rfl,by decide+kernel,rfl,by decide+kernel,by decide+kernel⟩
include T Fc dM a9 jC jD gz fE in
theorem Md{f:Addr}{fd:FuncData}(F:jN K "law" "law" lT f fd):aZ P w K mg base (dz P w) true 10 f fd ["_law_script"] (Bk K):=by
 refine F.gH jW Wa (fun bV A outer s H vs Q E hr h hX=>?_)
 ·obtain⟨a,ns,rfl,_⟩:=h;rfl
 ·obtain⟨a,ns,rfl,hS,hlen,q⟩:=h;have hu:=hr.units;have V9:(A.deeper (Zp "law" (au lT) f bV)).units+6<cLine:=by lia
  have hu:(A.deeper (Zp "law" (au lT) f bV)).units+1<cLine:=by lia
  have JJ:=Nat.lt_of_succ_lt hu;refine⟨_,(UN (ZS (1) jW.nd (ZV jD aR (ZU (ZV jC aR (Z1 V7 (ZU (Z0 (ZC (Z1 ai (Z1 ai (Z1 ai (ι ai))))) (Z2 bS (Z9 a9 aR) ai)))))))) (UN (ZS (2) jW.nd (ZC (Z1 (BV K (Z0 Rl ai) (@mP _ _ _ _ _ _ jM ai)) (Z1 (BV K (Z0 Rl ai) (@mP _ _ _ _ _ _ jM ai)) (Z1 (Z0 Rl ai) (ZU (Z0 Rl ai))))))) (UN (ZS (3) jW.nd (ZV gz aR (ZU Rl))) (UN (ZS (4) jW.nd (ZV gz aR (ZU W4))) (UN (Zo (Zj (Zi (@dH _ _ _ _ (ZR (Z_ (gN K) T.dW PyProof.Rows.Boot.«isinstance» (ο W5)))) (@pw_or1 _ _ _ _ (@dH _ _ _ _ (ZR (Z_ (gN K) T.dW PyProof.Rows.Boot.«isinstance» (ο Xr))))))) aQ) (UN (Zo (Zj (Zi (@dH _ _ _ _ (ZR (ZV fE aR (zr Rl)))) (Zi (@dH _ _ _ _ (ZR (ZV fE aR (Z1 W4 (ZU Xr))))) (@pw_or1 _ _ _ _ (Y7 vt (ZW (aJ K) (ZU W5)) (ZW (aJ K) (ZU Xr))))))) aQ) (UN (δ (5) jW.nd (Or.inr rfl) (Z2 bI (ZW (aJ K) (ZU (Z0 Rl ai))) ai)) (UN (δ (6) jW.nd (Or.inr rfl) (Z2 bI (ZW (aJ K) (ZU (Z0 Rl ai))) ai)) (UN (ZS (7) jW.nd (Z_ (t8 K V9) dM PyProof.Rows.Boot.«sorted» (ZU (@jo _ _ _ _ _ _ _ _ _ _ _ _ _ _ (by exact rfl) (show bh ["_law_script","_law_case_here","_law_other","_law_told","_law_back","_law_high","_law_end","_law_due","_law_found","_law_k"] (au lT) _ ["_law_one"] [] []from⟨rfl,by decide+kernel,by decide+kernel,by decide+kernel,rfl,rfl,by decide+kernel,by decide+kernel,by decide+kernel⟩) (ZH K W5) (fun _ _ _ _ _=>(ZT (0) (show(["_law_one"]:List Str).Nodup by decide+kernel))) (fun _ _ _ _ _=>f7) (fun _ _ _ _ _=>(Zm (Z1 (ZY K) (ZU (Z_ (nF K) dM PyProof.Rows.Boot.«sorted» (ZU (ZY K))))))) (by intro _;rfl))))) (UN (ZS (8) jW.nd (Z_ (t8 K V9) dM PyProof.Rows.Boot.«sorted» (ZU (@jo _ _ _ _ _ _ _ _ _ _ _ _ _ _ (by exact rfl) (show bh ["_law_script","_law_case_here","_law_other","_law_told","_law_back","_law_high","_law_end","_law_due","_law_found","_law_k"] (au lT) _ ["_law_one"] [5,6] ["_law_high","_law_end"]from⟨rfl,by decide+kernel,by decide+kernel,by decide+kernel,rfl,rfl,by decide+kernel,by decide+kernel,by decide+kernel⟩) (ZH K Xr) (fun _ _ _ _ _=>(ZT (0) (show(["_law_one","_law_high","_law_end"]:List Str).Nodup by decide+kernel))) (fun _ _ _ _ _=>f7) (fun _ _ _ _ _=>(Zm (Z1 (ZY K) (ZU (Z_ (nF K) dM PyProof.Rows.Boot.«sorted» (ZU (@jo _ _ _ _ _ _ _ _ _ _ _ _ _ _ (by exact rfl) (show bh ["_law_one","_law_high","_law_end"] _ _ ["_law_i","_law_j"] [1,2] ["_law_high","_law_end"]from⟨rfl,by decide+kernel,by decide+kernel,by decide+kernel,rfl,rfl,of_decide_eq_true (by kernel_rfl),of_decide_eq_true (by kernel_rfl),by decide+kernel⟩) (ZH K (ZY K)) (fun _ _ _ _ _=>(Β K (2) (ZG (ZT (0) (show(["_law_i","_law_j","_law_high","_law_end"]:List Str).Nodup by decide+kernel)) (ZG (ZT (1) (show(["_law_i","_law_j","_law_high","_law_end"]:List Str).Nodup by decide+kernel)) fF)))) (fun _ _ _ _ _=>f7) (fun _ _ _ _ _=>(Zm (Z1 (Z2 bI W4 (pv 0)) (ZU (Z2 bI W5 (pv 1)))))) (by intro _;rfl)))))))) (by intro _;rfl))))) (UN (Z5 (Μ ZE T.fJ (ZU (ZW (aJ K) (ZU (pv 7))))) (ZT (9) jW.nd) (Lw (Zo (Zj (Zi (Y7 vt (ZK (bH K) (Z0 (pv 7) (pv 9)) ai) (ZK (bH K) (Z0 (pv 8) (pv 9)) ai)) (@pw_or1 _ _ _ _ (Y7 (AD K hu) (ZK (bH K) (Z0 (pv 7) (pv 9)) ai) (ZK (bH K) (Z0 (pv 8) (pv 9)) ai))))) aQ))) (Lw (X' eI))))))))))))),?_⟩;refine⟨fun σ H1=>∃(b:Addr)(c c0:Case)(x1 x2 m l:Addr)(us:List V),σ=[sR a,sR b,none,none,none,none,none,none,none,none]∧av H H1∧jr H1 b c x1 x2 m l us∧eF 40 c∧(∀q,(c.pw q).isSome=(c0.pw q).isSome)∧((bK c0:Int)-1)*c.same+1≤c.least,?_,?_⟩
  ·obtain⟨mo,BY,hm⟩:=int_at [12,40,12,12,12] (i:=cell ns 12%5) (by lia) (show cell ns 12%5<(5:Int) by lia);have GB:mo=12∨mo=40:=by simp at BY;lia
   refine⟨_,rfl,aD Mi,fun p hp=>⟨_,rfl,a,ns,12,rfl,(UO hp).seq hS,Nn,_,_,rfl,rfl,(show(0:Int)<5 by decide),p,_,_,_,rfl,rfl, .of ae,by simpa using hm,a,ns,mo,rfl,(UO hp).seq hS,by lia,by lia,fun H1 b c x1 x2 m l us s1 hb C1 ok=>?_⟩⟩;have hx:=ok.x;have hy:=ok.y;have Ul:eF 60 c:=⟨by lia,by lia,ok.good,ok.same,ok.out,ok.into,ok.least⟩
   have Um:eF 40 c:=⟨by lia,by lia,ok.good,ok.same,ok.out,ok.into,ok.least⟩
   exact⟨b,c,x1,x2,m,l,us,rfl,C1,Ul,fun H2 b2 m2 s2 xl vF C2=>⟨b2,mZ c,c,x1,x2,m2,l,us,rfl,((UO hp).trans s1).trans s2,C2,BQ Um D9,C5 c,AF c⟩⟩
  rintro σ H1 ⟨b,c,c0,x1,x2,m,l,us,rfl,s1,C1,ok,Qs,Gu⟩;have uB:=F5 ok Gb ⟨Qs,Gu⟩;have Uo:=F5 (c:=De c) (BU ok) (cS c.xs.length c.ys.length) ⟨fun q=>by rw[JC];exact Qs _,Gu⟩;have Py:eF 50 c:=⟨ZN ok.x D9,ZN ok.y D9,ok.good,ok.same,ok.out,ok.into,ok.least⟩
  have kT:=C1.ca;refine⟨fun σ H3=>∃(g z1 z2:Addr),σ=[sR a,sR b,sR g,none,none,none,none,none,none,none]∧av H1 H3∧jr H3 g (De c) z1 z2 m l us,?_,?_⟩
  ·have el:∀xs:List Str,(xs.map V.str).reverse=xs.reverse.map V.str:=fun xs=>(List.map_reverse).symm
   refine⟨_,rfl,b,_,0,_,rfl,rfl, .of kT,R6 (j:=0),_,rfl,rfl,x1,_,rfl, .of C1.fi,fun z1 Ud=>?_⟩;rw[el];have s2:=av.upd (o:= .lst (c.xs.reverse.map V.str)) Ud;have Mb:=s2 _ _ kT;refine⟨_,rfl,b,_,1,_,rfl,rfl, .of Mb,R6 (j:=1),_,rfl,rfl,x2,_,rfl, .of (s2 _ _ C1.se),fun z2 Je=>?_⟩;rw[el];have s3:=av.upd (o:= .lst (c.ys.reverse.map V.str)) Je;have Iu:=s2.trans s3;have Pz:=Iu _ _ kT;refine⟨_,rfl,b,_,2,_,rfl,rfl, .of Pz,R6 (j:=2),_,rfl,b,_,3,_,rfl,rfl, .of Pz,R6 (j:=3),aD Mi,fun g hg=>?_⟩;have sb:=av.upd (o:= .lst [.ref z1, .ref z2, .ref m, .ref l]) hg;have sA:=Iu.trans sb;exact⟨g,z1,z2,rfl,sA,ae,(s3.trans sb) _ _ ae,sb _ _ ae,sA _ _ C1.nu,sA _ _ C1.ne,C1.tr.same sA⟩
  rintro σ H3 ⟨g,z1,z2,rfl,s3,G3⟩;have C3:=C1.keep s3;refine⟨fun σ H4=>∃(t:Addr)(vs:List V)(es:List Fd),σ=[sR a,sR b,sR g,sR t,none,none,none,none,none,none]∧av H3 H4∧H4 t=some (.lst vs)∧cx (fun _=>True) H4 aA vs es∧bJ ZP c.out c.into c.least es,?_,?_⟩
  ·exact⟨_,rfl,b,c,x1,x2,m,l,us,40,rfl,C3,ok,by lia,uB,fun es TD H4 t vs s4 _ h4 FL=>⟨t,vs,es,rfl,s4,h4,FL,TD⟩⟩
  rintro σ H4 ⟨t,vs,es,rfl,s4,ht,FL,TD⟩;have C4:=C3.keep s4;have G4:=G3.keep s4;refine⟨fun σ H5=>∃(r:Addr)(ws:List V)(qb:List Fd),σ=[sR a,sR b,sR g,sR t,sR r,none,none,none,none,none]∧av H4 H5∧H5 r=some (.lst ws)∧cx (fun _=>True) H5 aA ws qb∧bJ (iz (De c) []) (De c).out (De c).into (De c).least qb,?_,?_⟩
  ·exact⟨_,rfl,g,De c,z1,z2,m,l,us,40,rfl,G4,BU ok,by lia,Uo,fun es TD H5 t vs s5 _ h5 FL=>⟨t,vs,es,rfl,s5,h5,FL,TD⟩⟩
  rintro σ H5 ⟨r,ws,qb,rfl,s5,hr,FR,TR⟩;have Q2:=s5 _ _ ht;have Up:=FL.keep (P':=fun _=>True) (fun b o _ e=>s5 b o e) (cO.same s5) fun _ h=>h
  refine⟨fun σ H6=>σ=[sR a,sR b,sR g,sR t,sR r,none,none,none,none,none]∧H6=H5,?_,?_⟩
  ·refine⟨_,rfl,_,_,_,true,_,rfl,rfl, .lst Q2,rfl,_,rfl,?_⟩;refine gM ?_;refine⟨_,rfl,_,_,_,true,_,rfl,rfl, .lst hr,rfl,_,rfl,?_⟩;exact gM ⟨rfl,rfl⟩
  rintro σ H5 ⟨rfl,rfl⟩;have mv:=TD.moved (φ:=ko c.xs.length c.ys.length) (ψ:=ko c.xs.length c.ys.length) (g:=iz (De c) []) (xq _ _ c.out c.into) (xq _ _ c.out c.into) (JD c) TR;have V_:=TR.moved (φ:=ko c.xs.length c.ys.length) (ψ:=ko c.xs.length c.ys.length) (g:=iz c []) (xq _ _ c.out c.into) (xq _ _ c.out c.into) (fun q=>by rw[JD,cS]) TD;have abG:=vY TD TR mv (cS _ _);have abA:=vY TR TD V_ (cS _ _);have Pu:=Up.1;have IY:=FR.1;have abP:=TD.uB;have aah:=TR.uB;refine⟨fun σ H6=>σ=[sR a,sR b,sR g,sR t,sR r,none,none,none,none,none]∧av H5 H6,?_,?_⟩
  ·refine⟨_,rfl,_,rfl,b,t,c,x1,x2,m,l,us,vs,es,rfl,C4.keep s5,Py,Q2,Up,TD,fun H6 s6=>⟨_,rfl,?_⟩⟩;refine gM ?_;refine⟨_,rfl,_,rfl,g,r,De c,z1,z2,m,l,us,ws,qb,rfl,G4.keep (s5.trans s6),BU Py,s6 _ _ hr,FR.keep (fun b o _ e=>s6 b o e) (cO.same s6) (fun _ h=>h),TR,fun H7 s7=>⟨_,rfl,?_⟩⟩;refine gM ?_;have Mc:=s6.trans s7;refine⟨_,rfl,t,_,rfl, .inl (.of (Mc _ _ Q2)),_,rfl,r,_,rfl, .inl (.of (Mc _ _ hr)),rfl,_,rfl,?_⟩;exact ba (fun hh=>V' hh Zc) (fun _=>⟨rfl,Mc⟩)
  rintro σ H6 ⟨rfl,s6⟩;have C6:=(C4.keep s5).keep s6;have PB:=C6.ca;have aaC:(c.xs.map V.str).length=c.xs.length:=List.length_map ..;have Y9:(c.ys.map V.str).length=c.ys.length:=List.length_map ..;refine⟨fun σ H7=>σ=[sR a,sR b,sR g,sR t,sR r,sI (((c.xs.length:Int)-1)),none,none,none,none]∧H7=H6,⟨_,rfl,b,_,0,_,rfl,rfl, .of PB,R6 (j:=0),x1,_,rfl, .inl (.of C6.fi),_,_,rfl,rfl,by rw[aaC];rfl,rfl⟩,?_⟩;rintro σ H6 ⟨rfl,rfl⟩;refine⟨fun σ H7=>σ=[sR a,sR b,sR g,sR t,sR r,sI (((c.xs.length:Int)-1)),sI (((c.ys.length:Int)-1)),none,none,none]∧H7=H6,⟨_,rfl,b,_,1,_,rfl,rfl, .of PB,R6 (j:=1),x2,_,rfl, .inl (.of C6.se),_,_,rfl,rfl,by rw[Y9];rfl,rfl⟩,?_⟩;rintro σ H6 ⟨rfl,rfl⟩;have Wb:=s6 _ _ Q2;have aaD:=s6 _ _ hr;have Y':=Up.keep (P':=fun _=>True) (fun b o _ e=>s6 b o e) (cO.same s6) fun _ h=>h
  have Za:=FR.keep (P':=fun _=>True) (fun b o _ e=>s6 b o e) (cO.same s6) fun _ h=>h
  refine⟨fun σ H7=>∃(S:Addr)(zs:List V)(ks ls:List Ky),σ=[sR a,sR b,sR g,sR t,sR r,sI (((c.xs.length:Int)-1)),sI (((c.ys.length:Int)-1)),sR S,none,none]∧av H6 H7∧H7 S=some (.lst zs)∧y6 H7 zs ls∧iF id es ks∧ls.Perm ks∧ls.Pairwise fun a b=>rz (Dd a) (Dd b)=true,?_,?_⟩
  ·refine⟨_,rfl,t,rfl,⟨_, .of Wb⟩,fun D hD=>?_⟩;refine fV (xs:=vs) (fun i ys bx H7=>(∃u,bx=[u])∧H7 D=some (.lst ys)∧av H6 H7∧∃ks,k_ H7 D ys ks∧iF id (es.take i) ks) ⟨⟨_,rfl⟩,ae,UO hD,[], .nil, .nil⟩ ?_ ?_ ?_
   ·rintro i ys bx H7 _ ⟨_,_,s7,_⟩;exact .of (s7 _ _ Wb)
   ·rintro i v ys bx H7 hv ⟨⟨u,rfl⟩,DJ,s7,ks,DN,KO⟩;have hi:i<es.length:=by rw[←Pu];exact(ZX hv).1
    have ei:es[i]?=some es[i]:=by simp[hi]
    generalize es[i]=d at ei;obtain⟨y,dy,wy,iY,pr,kG,iq,e1,F6⟩:=Y'.2 i d ei;rw[hv]at e1;cases e1;have F:=F6.keep (P':=fun _=>True) (fun b o _ e=>s7 b o e) (cO.same s7) fun _ h=>h
    have iA:=TD.iA d (WI ei);have pl:=TD.AB ok (i+1);rw[o6 ei,List.length_append]at pl;have et:es.take (i+1)=es.take i++[d]:=by rw[List.take_succ,ei];rfl
    have dl:=DN.1;have kl:=KO.1;rw[List.length_take]at kl;refine nq ?_;refine⟨_,rfl,y,aA,dy,_,_,rfl,F.ob,Fc.cl,Fc.worth,j8 d.worth wy iY pr,_,rfl,y,aA,dy,_,_,rfl,F.ob,Fc.cl,Fc.pairs,jb d.worth wy iY pr,pr,iq,d.pairs,rfl, .of F.hp,F.pp,j_ iA.qB,by lia,fun z Dh qs hz P2 perm pw=>⟨aD Mi,fun p hp=>?_⟩⟩;have sz:=av.upd (o:= .lst Dh) hz;have sp:=av.upd (o:= .tup [.int d.worth, .ref z]) hp;have nz:z≠D:=fun e=>by rw[e,DJ]at hz;cases hz
    have sA:=sz.trans sp;refine⟨sA _ _ DJ,a_ D9,⟨_,rfl⟩,ae,(s7.trans sA).eR hD,ks++[(d.worth,qs)],?_,?_⟩
    ·have D2:=(DN.keep (fun b o _ e=>sA b o e) (cO.same sA)).snoc (x:=(d.worth,qs)) (t:=p) (l:=z) (us:=Dh) ae (sp _ _ ae) (P2.same sA) nz;exact D2.keep (fun b o hb e=>by rw[aj hb];exact e) (cO.lst (sA _ _ DJ))
    ·rw[et];exact KO.snoc ⟨rfl,pw,fun q=>perm.mem_iff⟩
   ·rintro ys bx H7 ⟨_,DJ,s7,ks,DN,KO⟩;rw[Pu,List.take_length]at KO;obtain⟨f1,f2⟩:=KO.F9 TD Gb;have kl:=KO.1;exact⟨D,ys,ks,rfl, .of DJ,DN.OW,f1,f2,by lia,fun S zs qs hS DU perm pw=>⟨S,zs,ks,qs,rfl,s7.trans (UO hS),ae,DU.keep (UO hS),KO,perm,pw⟩⟩
  rintro σ H7 ⟨S,zs,ks,ls,rfl,s7,Zb,DU,KO,pm,qB⟩;have Wc:=s7 _ _ aaD;have aaA:=Za.keep (P':=fun _=>True) (fun b o _ e=>s7 b o e) (cO.same s7) fun _ h=>h
  refine⟨fun σ H8=>∃(U:Addr)(PD:List V),σ=[sR a,sR b,sR g,sR t,sR r,sI (((c.xs.length:Int)-1)),sI (((c.ys.length:Int)-1)),sR S,sR U,none]∧av H7 H8∧H8 U=some (.lst PD)∧y6 H8 PD ls,?_,?_⟩
  ·refine⟨_,rfl,r,rfl,⟨_, .of Wc⟩,fun D hD=>?_⟩;refine fV (xs:=ws) (fun i ys bx H8=>(∃u,bx=[u,sI (((c.xs.length:Int)-1)),sI (((c.ys.length:Int)-1))])∧H8 D=some (.lst ys)∧av H7 H8∧∃ks,k_ H8 D ys ks∧iF (ko c.xs.length c.ys.length) (qb.take i) ks) ⟨⟨_,rfl⟩,ae,UO hD,[], .nil, .nil⟩ ?_ ?_ ?_
   ·rintro i ys bx H8 _ ⟨_,_,s8,_⟩;exact .of (s8 _ _ Wc)
   ·rintro i v ys bx H8 hv ⟨⟨u,rfl⟩,GD,s8,MI,DN,Me⟩;have hi:i<qb.length:=by rw[←IY];exact(ZX hv).1
    have ei:qb[i]?=some qb[i]:=by simp[hi]
    generalize qb[i]=d at ei;obtain⟨y,dy,wy,iY,pr,kG,iq,e1,F6⟩:=aaA.2 i d ei;rw[hv]at e1;cases e1;have F:=F6.keep (P':=fun _=>True) (fun b o _ e=>s8 b o e) (cO.same s8) fun _ h=>h
    have iA:=TR.iA d (WI ei);have pl:=TR.AB (BU ok) (i+1);rw[o6 ei,List.length_append]at pl;have et:qb.take (i+1)=qb.take i++[d]:=by rw[List.take_succ,ei];rfl
    have dl:=DN.1;have kl:=Me.1;rw[List.length_take]at kl;have Wd:=F.pp.1;refine nq ?_;refine⟨_,rfl,y,aA,dy,_,_,rfl,F.ob,Fc.cl,Fc.worth,j8 d.worth wy iY pr,_,rfl,y,aA,dy,_,_,rfl,F.ob,Fc.cl,Fc.pairs,jb d.worth wy iY pr,pr,rfl,⟨_, .of F.hp⟩,fun D2 la=>?_⟩;refine fV (xs:=iq) (fun j Dh fA H9=>(∃u1 u2,fA=[u1,u2,sI (((c.xs.length:Int)-1)),sI (((c.ys.length:Int)-1))])∧H9 D2=some (.lst Dh)∧av H8 H9∧fK H9 Dh ((d.pairs.take j).map (ko c.xs.length c.ys.length))) ⟨⟨_,_,rfl⟩,ae,UO la, .nil⟩ ?_ ?_ ?_
    ·rintro j Dh fA H9 _ ⟨_,_,s9,_⟩;exact .of (s9 _ _ F.hp)
    ·rintro j v Dh fA H9 L6 ⟨⟨u1,u2,rfl⟩,MN,s9,P9⟩;have hj:j<d.pairs.length:=by rw[←Wd];exact(ZX L6).1
     have ej:d.pairs[j]?=some d.pairs[j]:=by simp[hj]
     generalize d.pairs[j]=x at ej;obtain⟨tt,k1,k2⟩:=F.pp.2 j x ej;rw[L6]at k1;cases k1;have kt:=s9 _ _ k2;have p9:=P9.1;rw[List.length_map,List.length_take]at p9;have ht:d.pairs.take (j+1)=d.pairs.take j++[x]:=by rw[List.take_succ,ej];rfl
     refine⟨tt,_,rfl, .of kt,rfl,_,_,rfl,_,_,rfl,rfl,?_⟩;refine sr ?_;refine⟨_,rfl,_,rfl,_,_,rfl,rfl,_,rfl,_,rfl,_,_,rfl,rfl,aD Mi,fun p1 E8=>⟨av.upd E8 _ _ MN,a_ D9,⟨_,_,rfl⟩,ae,(s9.trans (UO E8)).eR la,?_⟩⟩;rw[ht,List.map_append];have aaB:fK (upd H9 p1 (.tup (iE (ko c.xs.length c.ys.length x)))) (Dh++[.ref p1]) ((d.pairs.take j).map (ko c.xs.length c.ys.length)++[ko c.xs.length c.ys.length x]):=(P9.same (UO E8)).snoc ae;exact aaB.cA (cO.lst (av.upd E8 _ _ MN))
    ·rintro Dh fA H9 ⟨_,MN,s9,P9⟩;rw[Wd,List.take_length]at P9;refine⟨D2,Dh,d.pairs.map (ko c.xs.length c.ys.length),rfl, .of MN,P9,List.pairwise_map.mpr ((j_ iA.qB).imp fun{a b} h e=>h (by rw[←cS c.xs.length c.ys.length a,e,cS])),by rw[List.length_map];lia,fun z We qs hz P3 perm pw=>⟨aD Mi,fun p hp=>?_⟩⟩;have sz:=av.upd (o:= .lst We) hz;have sp:=av.upd (o:= .tup [.int d.worth, .ref z]) hp;have Mf:=s9 _ _ GD;have nz:z≠D:=fun e=>by rw[e,Mf]at hz;cases hz
     have sA:=sz.trans sp;have Uq:=s9.trans sA;refine⟨sA _ _ Mf,a_ D9,⟨_,rfl⟩,ae,(s8.trans Uq).eR hD,MI++[(d.worth,qs)],?_,?_⟩
     ·have D2:=(DN.keep (fun b o _ e=>Uq b o e) (cO.same Uq)).snoc (x:=(d.worth,qs)) (t:=p) (l:=z) (us:=We) ae (sp _ _ ae) (P3.same sA) nz;exact D2.keep (fun b o hb e=>by rw[aj hb];exact e) (cO.lst (sA _ _ Mf))
     ·rw[et];refine Me.snoc ⟨rfl,pw,fun q=>?_⟩;rw[perm.mem_iff,List.mem_map];constructor
      ·rintro⟨x,hx,rfl⟩;rw[cS];exact hx
      ·exact fun hq=>⟨_,hq,cS _ _ q⟩
   ·rintro ys bx H8 ⟨_,GD,s8,MI,DN,Me⟩;rw[IY,List.take_length]at Me;obtain⟨f1,f2⟩:=Me.F9 TR (cS _ _);have kl:=Me.1;exact⟨D,ys,MI,rfl, .of GD,DN.OW,f1,f2,by lia,fun U PD qs hU DU perm pw=>⟨U,PD,rfl,s8.trans (UO hU),ae,by
     rw[kys_eq (c':=De c) TD mv V_ (cS _ _) KO Me pm qB perm pw];exact DU.keep (UO hU)⟩⟩
  rintro σ H8 ⟨U,PD,rfl,s8,Wf,Wg⟩;have Wh:=DU.keep s8;have Gh:=s8 _ _ Zb;have kl:=KO.1;have pl:=pm.length_eq;have dl:=Wh.1;have aay:=Wg.1;refine⟨fun σ H9=>True,?_,fun σ H9 _=>q _⟩;refine⟨_,rfl,S,_,rfl, .inl (.of Gh),_,rfl,by lia,by lia,?_⟩;refine fo (fun k σ H9=>(∃u,σ=[sR a,sR b,sR g,sR t,sR r,sI (((c.xs.length:Int)-1)),sI (((c.ys.length:Int)-1)),sR S,sR U,u])∧H9=H8) ⟨⟨_,rfl⟩,rfl⟩ ?_ (fun _ _ _=>trivial);rintro k σ H9 hk ⟨⟨u,rfl⟩,rfl⟩;have hk:k<ls.length:=by have:k<((zs.length:Nat):Int).toNat:=hk;lia
  have ek:ls[k]?=some ls[k]:=by simp[hk]
  generalize ls[k]=x at ek;obtain⟨t1,l1,kG,a1,a2,a3,P1⟩:=Wh.2 k x ek;obtain⟨t2,l2,iq,b1,b2,b3,P2⟩:=Wg.2 k x ek;refine⟨_,rfl,_,rfl,S,_,_,_,rfl,rfl, .of Gh,Ms a1,t1,_,0,_,rfl,rfl, .of a2,R6 (j:=0),_,rfl,_,rfl,U,_,_,_,rfl,rfl, .of Wf,Ms b1,t2,_,0,_,rfl,rfl, .of b2,R6 (j:=0),rfl,_,rfl,?_⟩;refine ba (fun hh=>Zy hh) (fun _=>?_);refine⟨_,rfl,_,rfl,S,_,_,_,rfl,rfl, .of Gh,Ms a1,t1,_,1,_,rfl,rfl, .of a2,R6 (j:=1),_,rfl,_,rfl,U,_,_,_,rfl,rfl, .of Wf,Ms b1,t2,_,1,_,rfl,rfl, .of b2,R6 (j:=1),l1,l2,_,_,_,rfl,rfl, .of a3, .of b3,P1,P2,_,rfl,?_⟩;exact gM ⟨⟨_,rfl⟩,rfl⟩
end
theorem all_mk{l:W.OpenLaw}{w:World}{K:W.Frag}{h:Heap}{mg:Str→Option Value}{fa:Addr}(X:K.In h)(G:h.Ns mainGlobals mg)(Ze:mg "law"=some (.ref fa))
  {pz jE:Option Addr} {pA:Array (Option Value)} {pB jF jG jH gA jI:Value}
  {gB:Addr} {pC:Value} {pD:Option Addr} {pE:Nat} {pF:Array (Option Value)} {pG:Tok}
  {aU:Addr} (xA:OT K "Terms" aU)
  {az:Addr} (ug:OT K "Trails" az)
  {aA:Addr} (qO:OT K "Finding" aA)
  {aI:Addr} (uh:OT K "Groups" aI)
  {ay:Addr} (lV:OT K "Gathering" ay)
  {jJ:Addr} (pH:W.nsIn K mainGlobals "is_small_letter"=some (some (.ref jJ)))
  (pI:fO K "is_small_letter" "is_small_letter" f_ jJ)
  {vZ:Addr} (Dj:W.nsIn K mainGlobals "is_word"=some (some (.ref vZ)))
  (Dk:fO K "is_word" "is_word" my vZ)
  {pJ:Addr} (xB:W.nsIn K mainGlobals "is_between"=some (some (.ref pJ)))
  (xC:fO K "is_between" "is_between" kH pJ)
  {lW:Addr} (aaR:W.nsIn K mainGlobals "check_number"=some (some (.ref lW)))
  (uj:fO K "check_number" "check_number" jd lW)
  {jK:Addr} (pK:W.nsIn K mainGlobals "check_near_form"=some (some (.ref jK)))
  (pL:fO K "check_near_form" "check_near_form" f' jK)
  {m7:Addr} (u0:W.nsIn K mainGlobals "near_prices"=some (some (.ref m7)))
  (u7:fO K "near_prices" "near_prices" gX m7)
  {fv:Addr} (qQ:W.findIn K (.ref aU) "__init__"=some (some (.ref fv))) (qR:W.isFn K (.ref fv)=true)
  (qS:K.lookup fv=some ⟨pB,pz, .func (W.fnOf "__init__" "Terms.__init__" (fG br) (eJ br) (au br) (.ref gB) jF jG jH jE gA jI),pA⟩)
  (qT:W.codeIn K gA "Terms.__init__"=true) (qU:W.keepIn K (.ref fv)=true)
  (pM:K.lookup gB=some ⟨pC,pD, .seq #[.int 50 pG, .none] pE,pF⟩)
  {fT:Addr} (nX:W.findIn K (.ref aU) "pair_worth"=some (some (.ref fT))) (nY:W.isFn K (.ref fT)=true)
  (nZ:fO K "pair_worth" "Terms.pair_worth" dY fT)
  {uk:Addr} (AQ:W.nsIn K mainGlobals "greatest"=some (some (.ref uk)))
  (AR:fO K "greatest" "greatest" kI uk)
  {Gi:Addr} (Mg:W.nsIn K mainGlobals "less"=some (some (.ref Gi)))
  (Mh:fO K "less" "less" AG Gi)
  {jh:Addr} (n5:W.nsIn K mainGlobals "begun_or_gone_on"=some (some (.ref jh)))
  (n6:fO K "begun_or_gone_on" "begun_or_gone_on" fQ jh)
  {dO:Addr} (ki:W.findIn K (.ref az) "brought_behind"=some (some (.ref dO))) (kj:W.isFn K (.ref dO)=true)
  (kn:fO K "brought_behind" "Trails.brought_behind" dJ dO)
  {gC:Addr} (pN:W.findIn K (.ref az) "__init__"=some (some (.ref gC))) (pO:W.isFn K (.ref gC)=true)
  (pQ:fO K "__init__" "Trails.__init__" eK gC)
  {gR:Addr} (aaN:W.findIn K (.ref az) "goes_on"=some (some (.ref gR))) (qW:W.isFn K (.ref gR)=true)
  (qX:fO K "goes_on" "Trails.goes_on" gQ gR)
  {d_:Addr} (aaP:W.findIn K (.ref az) "is_brought_by"=some (some (.ref d_))) (kW:W.isFn K (.ref d_)=true)
  (kX:fO K "is_brought_by" "Trails.is_brought_by" dZ d_)
  {cU:Addr} (jk:W.findIn K (.ref az) "crossings_before"=some (some (.ref cU))) (jl:W.isFn K (.ref cU)=true)
  (jm:fO K "crossings_before" "Trails.crossings_before" cT cU)
  {fj:Addr} (lX:W.findIn K (.ref az) "pair_before"=some (some (.ref fj))) (lY:W.isFn K (.ref fj)=true)
  (lZ:fO K "pair_before" "Trails.pair_before" e6 fj)
  {iC:Addr} (r6:W.findIn K (.ref az) "way_to"=some (some (.ref iC))) (r_:W.isFn K (.ref iC)=true)
  (sf:fO K "way_to" "Trails.way_to" iB iC)
  {fU:Addr} (n8:W.findIn K (.ref aA) "__init__"=some (some (.ref fU))) (n9:W.isFn K (.ref fU)=true)
  (n_:fO K "__init__" "Finding.__init__" fR fU)
  {um:Addr} (AS:W.nsIn K mainGlobals "order_of"=some (some (.ref um)))
  (AU:fO K "order_of" "order_of" nK um)
  {l0:Addr} (uo:W.nsIn K mainGlobals "make_finding"=some (some (.ref l0)))
  (uq:fO K "make_finding" "make_finding" e7 l0)
  {gD:Addr} (pR:W.findIn K (.ref aI) "__init__"=some (some (.ref gD))) (pS:W.isFn K (.ref gD)=true)
  (pT:fO K "__init__" "Groups.__init__" gc gD)
  {kY:Addr} (xD:W.findIn K (.ref aI) "has"=some (some (.ref kY))) (xE:W.isFn K (.ref kY)=true)
  (xF:fO K "has" "Groups.has" iM kY)
  {gS:Addr} (qY:W.findIn K (.ref aI) "take_in"=some (some (.ref gS))) (qZ:W.isFn K (.ref gS)=true)
  (q_:fO K "take_in" "Groups.take_in" ft gS)
  {ji:Addr} (ur:W.findIn K (.ref aI) "unite"=some (some (.ref ji))) (uv:W.isFn K (.ref ji)=true)
  (uw:fO K "unite" "Groups.unite" e_ ji)
  {jX:Addr} (u9:W.findIn K (.ref aI) "told"=some (some (.ref jX))) (u_:W.isFn K (.ref jX)=true)
  (va:fO K "told" "Groups.told" gY jX)
  {fm:Addr} (l5:W.findIn K (.ref ay) "__init__"=some (some (.ref fm))) (l6:W.isFn K (.ref fm)=true)
  (l7:fO K "__init__" "Gathering.__init__" fe fm)
  {gT:Addr} (rf:W.findIn K (.ref ay) "mark"=some (some (.ref gT))) (rg:W.isFn K (.ref gT)=true)
  (rh:fO K "mark" "Gathering.mark" fu gT)
  {fz:Addr} (mK:W.findIn K (.ref ay) "go_over"=some (some (.ref fz))) (mL:W.isFn K (.ref fz)=true)
  (mM:fO K "go_over" "Gathering.go_over" dF fz)
  {gE:Addr} (pU:W.findIn K (.ref ay) "visit"=some (some (.ref gE))) (pV:W.isFn K (.ref gE)=true)
  (pW:fO K "visit" "Gathering.visit" eL gE)
  {m8:Addr} (vc:W.nsIn K mainGlobals "best_groups"=some (some (.ref m8)))
  (ve:fO K "best_groups" "best_groups" jS m8)
  {v5:Addr} (Dm:W.nsIn K mainGlobals "shut_by"=some (some (.ref v5)))
  (Dn:fO K "shut_by" "shut_by" mz v5)
  {m9:Addr} (vf:W.nsIn K mainGlobals "open_worths"=some (some (.ref m9)))
  (vh:fO K "open_worths" "open_worths" fC m9)
  {pX:Addr} (xG:W.nsIn K mainGlobals "make_round"=some (some (.ref pX)))
  (xH:fO K "make_round" "make_round" gf pX)
  {pY:Addr} (xI:W.nsIn K mainGlobals "shut_pairs"=some (some (.ref pY)))
  (xJ:fO K "shut_pairs" "shut_pairs" kJ pY)
  {v7:Addr} (Dp:W.nsIn K mainGlobals "compare"=some (some (.ref v7)))
  (Dq:fO K "compare" "compare" qL v7)
  {v8:Addr} (Dr:W.nsIn K mainGlobals "_law_at"=some (some (.ref v8)))
  (Ds:fO K "_law_at" "_law_at" qM v8)
  {pZ:Addr} (xK:W.nsIn K mainGlobals "_law_whole"=some (some (.ref pZ)))
  (xM:fO K "_law_whole" "_law_whole" kK pZ)
  {rE:Addr} (zb:W.nsIn K mainGlobals "_law_bank"=some (some (.ref rE)))
  (zc:fO K "_law_bank" "_law_bank" lN rE)
  {rF:Addr} (zd:W.nsIn K mainGlobals "_law_book"=some (some (.ref rF)))
  (ze:fO K "_law_book" "_law_book" lO rF)
  {p4:Addr} (xN:W.nsIn K mainGlobals "_law_quote"=some (some (.ref p4)))
  (xO:fO K "_law_quote" "_law_quote" iO p4)
  {l8:Addr} (ux:W.nsIn K mainGlobals "_law_numbers"=some (some (.ref l8)))
  (uy:fO K "_law_numbers" "_law_numbers" gh l8)
  {rG:Addr} (zf:W.nsIn K mainGlobals "_law_near"=some (some (.ref rG)))
  (zg:fO K "_law_near" "_law_near" lP rG)
  {rH:Addr} (zh:W.nsIn K mainGlobals "_law_case"=some (some (.ref rH)))
  (zi:fO K "_law_case" "_law_case" lQ rH)
  {rJ:Addr} (zj:W.nsIn K mainGlobals "_law_pair"=some (some (.ref rJ)))
  (zk:fO K "_law_pair" "_law_pair" lR rJ)
  {p5:Addr} (xP:W.nsIn K mainGlobals "_law_worth"=some (some (.ref p5)))
  (xQ:fO K "_law_worth" "_law_worth" kL p5)
  {p6:Addr} (xR:W.nsIn K mainGlobals "_law_pairs"=some (some (.ref p6)))
  (xS:fO K "_law_pairs" "_law_pairs" kM p6)
  {p7:Addr} (xT:W.nsIn K mainGlobals "_law_terms"=some (some (.ref p7)))
  (xU:fO K "_law_terms" "_law_terms" kN p7)
  {rK:Addr} (zl:W.nsIn K mainGlobals "_law_calm"=some (some (.ref rK)))
  (zm:fO K "_law_calm" "_law_calm" lS rK)
  {l_:Addr} (uz:W.nsIn K mainGlobals "_law_finding"=some (some (.ref l_)))
  (uA:fO K "_law_finding" "_law_finding" gi l_)
  {m_:Addr} (vi:W.nsIn K mainGlobals "_law_is_way"=some (some (.ref m_)))
  (vj:fO K "_law_is_way" "_law_is_way" gZ m_)
  {p8:Addr} (xV:W.nsIn K mainGlobals "_law_spots"=some (some (.ref p8)))
  (xW:fO K "_law_spots" "_law_spots" iP p8)
  {nc:Addr} (vk:W.nsIn K mainGlobals "_law_anchor"=some (some (.ref nc)))
  (vm:fO K "_law_anchor" "_law_anchor" g7 nc)
  {p_:Addr} (xX:W.nsIn K mainGlobals "_law_asked"=some (some (.ref p_)))
  (xY:fO K "_law_asked" "_law_asked" kO p_)
  {JR:Addr} (PF:W.nsIn K mainGlobals "law"=some (some (.ref JR)))
  (PH:fO K "law" "law" lT JR)
  (Tc:Ey K aU)
  (Rc:Bp K az)
  (Fc:Ju K aA)
  (Gc:OC K aI)
  (Hc:Jy K ay)
  (zz:TZ K)
  {zo:Tok} (zp:W.nsIn K mainGlobals "WORD_MOST"=some (some (.int 12 zo)))
  {xZ:Tok} (x_:W.nsIn K mainGlobals "WORTH_MOST"=some (some (.int 999999 xZ)))
  {zq:Tok} (aaL:W.nsIn K mainGlobals "NEAR_MOST"=some (some (.int 60 zq)))
  {zt:Tok} (zu:W.nsIn K mainGlobals "PART_MOST"=some (some (.int 100 zt)))
  {sg:Tok} (si:W.nsIn K mainGlobals "FINDINGS_MOST"=some (some (.int 20 sg)))
  {d0:Addr} (AV:OS K "BadTerms" d0)
  {cV:Addr} (aaG:OS K "BadNear" cV)
  {kb:Addr} (Du:OS K "TooMany" kb)
  (AW:W.nsIn K mainGlobals "reversed"=some none)
  (Gj:W.nsIn K mainGlobals "sorted"=some none)
  :∃fd:FuncData,(∀(s:Shared)(v:Value),BindsTo s fd ⟨[v],[]⟩ [("_law_script",v)])∧∀base:Heap,K.In base→base.Ns mainGlobals mg→aZ l.prog w K mg base (dz l.prog w) true 10 fa fd ["_law_script"] (Bk K):=by
 have e:=Ze.symm.trans (W.mg_of X G PF);cases e;have T:=zz.tb X G;have jw:DX mg "WORD_MOST" (.int 12):=⟨_,W.mg_of X G zp,_,rfl⟩
 have bQ:DX mg "WORTH_MOST" (.int 999999):=⟨_,W.mg_of X G x_,_,rfl⟩
 have ik:DX mg "NEAR_MOST" (.int 60):=⟨_,W.mg_of X G aaL,_,rfl⟩
 have jx:DX mg "PART_MOST" (.int 100):=⟨_,W.mg_of X G zu,_,rfl⟩
 have ed:DX mg "FINDINGS_MOST" (.int 20):=⟨_,W.mg_of X G si,_,rfl⟩
 have je:=AV.er X G;have bZ:=aaG.er X G;have kh:=Du.er X G;have abF:mg "reversed"=none:=W.mg_none_of X G AW;have dM:mg "sorted"=none:=W.mg_none_of X G Gj;obtain @⟨_,k1,k2,k3,k4,k5,_,k6,_,l9,c9,k9⟩:=PH;refine⟨W.fnOf "law" "law" (fG lT) (eJ lT) (au lT) .none k1 k2 k3 k6 k4 k5,fun s v=> .of_eq rfl,fun base _ _=>?_⟩;have eM:=pI.df X G pH (fun _ F=>nM (P:=l.prog) (w:=w) (base:=base) T F) (BR fun _ _ _ _ _ _ _=>rfl);have kc:=Dk.df X G Dj (fun _ F=>AI (P:=l.prog) (w:=w) (base:=base) T jw eM F) (BR fun _ _ _ _ _ _ _=>rfl);have d6:=xC.df X G xB (fun _ F=>uM (P:=l.prog) (w:=w) (base:=base) T F) (AA fun _ _ _ _ _ _ _ _ _=>rfl);have cy:=uj.df X G aaR (fun _ F=>rS (P:=l.prog) (w:=w) (base:=base) T d6 je F) (SU fun _ _ _ _ _ _ _ _ _ _=>rfl);have eO:=pL.df X G pK (fun _ F=>nP (P:=l.prog) (w:=w) (base:=base) T d6 bQ kc bZ F) (AA fun _ _ _ _ _ _ _ _ _=>rfl);have g8:=u7.df X G u0 (fun _ F=>t9 (P:=l.prog) (w:=w) (base:=base) T bZ ik eO F) (BR fun _ _ _ _ _ _ _=>rfl);have rj:=Bh (st:=br) qS qT qU;have rk:=o8 (P:=l.prog) (w:=w) (base:=base) T bQ jx cy g8 Tc rj;have AX:Binds K (W.fnOf "__init__" "Terms.__init__" (fG br) (eJ br) (au br) (.ref gB) jF jG jH jE gA jI) ["self","same","out","into","least","part","near"] []:=fun s us hK hl=>by
  obtain⟨_,_,_,_,_,_,_,rfl⟩:=QF.R5 us (by simpa using hl);exact BindsTo.of_defaults rfl (hK _ _ pM) rfl rfl rfl
 have px:mS l.prog w K mg base true 5 "Terms" aU ["self","same","out","into","least","part","near"] [] (sD aU d0 cV):=yA rk ⟨xA.b,qQ,qR,xA.c⟩ (W.mg_of X G xA.a) AX (.nil);have d8:=nZ.mt Tc.cl nX nY (fun _ F=>mF (P:=l.prog) (w:=w) (base:=base) T Tc F) (AA fun _ _ _ _ _ _ _ _ _=>rfl);have fg:=AR.df X G AQ (fun _ F=>y9 (P:=l.prog) (w:=w) (base:=base) T F) (BR fun _ _ _ _ _ _ _=>rfl);have kP:=Mh.df X G Mg (fun _ F=>Ii (P:=l.prog) (w:=w) (base:=base) T F) (yd fun _ _ _ _ _ _ _ _=>rfl);have d7:=n6.df X G n5 (fun _ F=>mH (P:=l.prog) (w:=w) (base:=base) T F) (yd fun _ _ _ _ _ _ _ _=>rfl);have cB:=kn.mt Rc.cl ki kj (fun _ F=>jU (P:=l.prog) (w:=w) (base:=base) T fg kP Rc F) (AA fun _ _ _ _ _ _ _ _ _=>rfl);have mD:=pQ.nw (W.mg_of X G ug.a) ug.b ug.c pN pO (fun _ F=>nQ (P:=l.prog) (w:=w) (base:=base) T Tc Rc d7 cB F) (AA fun _ _ _ _ _ _ _ _ _=>rfl);have b_:=qX.mt Rc.cl aaN qW (fun _ F=>o_ (P:=l.prog) (w:=w) (base:=base) T Rc F) (yd fun _ _ _ _ _ _ _ _=>rfl);have bg:=kX.mt Rc.cl aaP kW (fun _ F=>kf (P:=l.prog) (w:=w) (base:=base) T Rc F) (AA fun _ _ _ _ _ _ _ _ _=>rfl);have aX:=jm.mt Rc.cl jk jl (fun _ F=>jf (P:=l.prog) (w:=w) (base:=base) T kP Rc F) (yd fun _ _ _ _ _ _ _ _=>rfl);have dj:=lZ.mt Rc.cl lX lY (fun _ F=>lq (P:=l.prog) (w:=w) (base:=base) T Rc bg aX F) (yd fun _ _ _ _ _ _ _ _=>rfl);have fL:=sf.mt Rc.cl r6 r_ (fun _ F=>qN (P:=l.prog) (w:=w) (base:=base) T Rc b_ dj F) (yd fun _ _ _ _ _ _ _ _=>rfl);have kQ:=n_.nw (W.mg_of X G qO.a) qO.b qO.c n8 n9 (fun _ F=>mJ (P:=l.prog) (w:=w) (base:=base) T Fc F) (U' fun _ _ _ _ _ _ _ _ _ _ _=>rfl);have kR:=AU.df X G AS (fun _ F=>za (P:=l.prog) (w:=w) (base:=base) T Fc F) (BR fun _ _ _ _ _ _ _=>rfl);have gk:=uq.df X G uo (fun _ F=>rW (P:=l.prog) (w:=w) (base:=base) T Rc fL kQ F) (AA fun _ _ _ _ _ _ _ _ _=>rfl);have mB:=pT.nw (W.mg_of X G uh.a) uh.b uh.c pR pS (fun _ F=>nU (P:=l.prog) (w:=w) (base:=base) T Gc F) (BR fun _ _ _ _ _ _ _=>rfl);have iQ:=xF.mt Gc.cl xD xE (fun _ F=>uO (P:=l.prog) (w:=w) (base:=base) T Gc F) (yd fun _ _ _ _ _ _ _ _=>rfl);have cb:=q_.mt Gc.cl qY qZ (fun _ F=>pe (P:=l.prog) (w:=w) (base:=base) T Gc F) (yd fun _ _ _ _ _ _ _ _=>rfl);have cQ:=uw.mt Gc.cl ur uv (fun _ F=>rX (P:=l.prog) (w:=w) (base:=base) T Gc F) (AA fun _ _ _ _ _ _ _ _ _=>rfl);have g9:=va.mt Gc.cl u9 u_ (fun _ F=>aaO (P:=l.prog) (w:=w) (base:=base) T Gc dM F) (BR fun _ _ _ _ _ _ _=>rfl);have iR:=l7.nw (W.mg_of X G lV.a) lV.b lV.c l5 l6 (fun _ F=>lu (P:=l.prog) (w:=w) (base:=base) T mB Hc F) (AA fun _ _ _ _ _ _ _ _ _=>rfl);have cc:=rh.mt Hc.cl rf rg (fun _ F=>pj (P:=l.prog) (w:=w) (base:=base) T Hc cQ F) (AA fun _ _ _ _ _ _ _ _ _=>rfl);have dG:=mM.mt Hc.cl mK mL (fun _ F=>lU (P:=l.prog) (w:=w) (base:=base) T bg aX Hc cQ cb cc F) (AA fun _ _ _ _ _ _ _ _ _=>rfl);have eP:=pW.mt Hc.cl pU pV (fun _ F=>nV (P:=l.prog) (w:=w) (base:=base) T Rc b_ Hc cb cc iQ dG F) (AA fun _ _ _ _ _ _ _ _ _=>rfl);have g_:=ve.df X G vc (fun _ F=>ub (P:=l.prog) (w:=w) (base:=base) T Rc Hc iR eP g9 F) (yd fun _ _ _ _ _ _ _ _=>rfl);have mC:=Dn.df X G Dm (fun _ F=>AL (P:=l.prog) (w:=w) (base:=base) T F) (BR fun _ _ _ _ _ _ _=>rfl);have hJ:=vh.df X G vf (fun _ F=>uc (P:=l.prog) (w:=w) (base:=base) T Tc mC d8 F) (SU fun _ _ _ _ _ _ _ _ _ _=>rfl);have gm:=xH.df X G xG (fun _ F=>uP (P:=l.prog) (w:=w) (base:=base) T Tc fg Rc mD g_ gk F) (yd fun _ _ _ _ _ _ _ _=>rfl);have iS:=xJ.df X G xI (fun _ F=>uQ (P:=l.prog) (w:=w) (base:=base) T Fc F) (yd fun _ _ _ _ _ _ _ _=>rfl);have mE:=Dq.df X G Dp (fun _ F=>AM (P:=l.prog) (w:=w) (base:=base) T dM ed hJ gm iS kR kh F) (AA fun _ _ _ _ _ _ _ _ _=>rfl);have a9:=Ds.df X G Dr (fun _ F=>AO (P:=l.prog) (w:=w) (base:=base) T F) (yd fun _ _ _ _ _ _ _ _=>rfl);have cI:=xM.df X G xK (fun _ F=>uS (P:=l.prog) (w:=w) (base:=base) T F) (BR fun _ _ _ _ _ _ _=>rfl);have jz:=zc.df X G zb (fun _ F=>xt (P:=l.prog) (w:=w) (base:=base) T F) (AA fun _ _ _ _ _ _ _ _ _=>rfl);have jA:=ze.df X G zd (fun _ F=>xu (P:=l.prog) (w:=w) (base:=base) T a9 F) (U' fun _ _ _ _ _ _ _ _ _ _ _=>rfl);have iT:=xO.df X G xN (fun _ F=>uT (P:=l.prog) (w:=w) (base:=base) T a9 F) (XH fun _ _ _ _ _ _ _ _ _ _ _ _=>rfl);have gu:=uy.df X G ux (fun _ F=>rY (P:=l.prog) (w:=w) (base:=base) T a9 F) (yd fun _ _ _ _ _ _ _ _=>rfl);have jB:=zg.df X G zf (fun _ F=>xv (P:=l.prog) (w:=w) (base:=base) T F) (AA fun _ _ _ _ _ _ _ _ _=>rfl);have jC:=zi.df X G zh (fun _ F=>xw (P:=l.prog) (w:=w) (base:=base) T a9 jz jA iT gu jB F) (yd fun _ _ _ _ _ _ _ _=>rfl);have bG:=zk.df X G zj (fun _ F=>xx (P:=l.prog) (w:=w) (base:=base) T F) (SU fun _ _ _ _ _ _ _ _ _ _=>rfl);have iV:=xQ.df X G xP (fun _ F=>uU (P:=l.prog) (w:=w) (base:=base) T bG F) (yd fun _ _ _ _ _ _ _ _=>rfl);have gv:=xS.df X G xR (fun _ F=>uV (P:=l.prog) (w:=w) (base:=base) T cI F) (BR fun _ _ _ _ _ _ _=>rfl);have iX:=xU.df X G xT (fun _ F=>aaH (P:=l.prog) (w:=w) (base:=base) T px F) (BR fun _ _ _ _ _ _ _=>rfl);have jD:=zm.df X G zl (fun _ F=>xy (P:=l.prog) (w:=w) (base:=base) T bG F) (BR fun _ _ _ _ _ _ _=>rfl);have gy:=uA.df X G uz (fun _ F=>rZ (P:=l.prog) (w:=w) (base:=base) T Fc cI gv F) (BR fun _ _ _ _ _ _ _=>rfl);have hV:=vj.df X G vi (fun _ F=>ue (P:=l.prog) (w:=w) (base:=base) T bG F) (yd fun _ _ _ _ _ _ _ _=>rfl);have iW:=xW.df X G xV (fun _ F=>uX (P:=l.prog) (w:=w) (base:=base) T bG F) (yd fun _ _ _ _ _ _ _ _=>rfl);have fE:=vm.df X G vk (fun _ F=>uf (P:=l.prog) (w:=w) (base:=base) T Fc gy hV iV iW F) (yd fun _ _ _ _ _ _ _ _=>rfl);have gz:=xY.df X G xX (fun _ F=>uZ (P:=l.prog) (w:=w) (base:=base) T mE iX F) (BR fun _ _ _ _ _ _ _=>rfl);exact Md T Fc dM a9 jC jD gz fE (Ej (st:=lT) l9 c9 k9)
theorem walk{l:W.OpenLaw}{q:Program}{loose:List Str}{XP:(Str→Option Value)→Heap→Prop}{YP:World→Heap→Prop}{d:DefRec}{K:Params→W.Frag}(hn:l.most=some 63)(NQ:d.params.defaults=[])
  (hY:∀(w:World)(h:Heap),YP w h→(K w.params).In h)
  (F:∀(w:World)(mg:Str→Option Value)(fa:Addr)(h:Heap),(K w.params).In h→h.Ns mainGlobals mg→mg d.name=some (.ref fa)→
   ∃fd:FuncData,(∀(s:Shared)(u:Value),BindsTo s fd ⟨[u],[]⟩ [("_law_script",u)])∧∀base:Heap,(K w.params).In base→base.Ns mainGlobals mg→aZ l.prog w (K w.params) mg base (dz l.prog w) true 10 fa fd ["_law_script"] (Bk (K w.params))):
  W.WalkO q loose XP YP l.row.toRowW d [] (fun f vs=>PySem.call f vs):=
 L2.Ha (n:=63) (k:=10) (x:="_law_script") (CX:=fun w=>dz l.prog w) (sp:=fun w=>Bk (K w.params)) hn ZO NQ ⟨(fun _=>rfl),Nn,Nn⟩ hY F (fun _ _ a ns hl _ hS=>⟨a,ns,rfl,hS,hl,fun _=>rfl⟩) fun _ _ _ _ _ z=>by obtain⟨_,_,_,_,_,_,_,_,_,_,_,_,_,z⟩:=z;exact z
end SY
open PySem PySem.W PyProof.Rows
set_option maxRecDepth 100000 in
set_option maxHeartbeats 0 in
theorem PySem.Challenge.cw_quotefind_k23_backwards_holds : PySem.Challenge.rw_quotefind_k23_backwards.Holds := by
 w_on;refine holds_law HD.ws fun said=>?_;k_head
 (case hw=>w_witness2)
 refine SY.walk (l:=PySem.Challenge.rw_quotefind_k23_backwards) rfl rfl (fun w h Y=>PySem.W.kIn_of Y) ?F
 case F=>
  intro w mg fa h KX G NR
  refine' SY.all_mk KX G NR ?_ ?_ ?_ ?_ ?_ ?_ ?_ ?_ ?_ ?_ ?_ ?_ ?_ ?_ ?_ ?_ ?_ ?_ ?_ ?_ ?_ ?_ ?_ ?_ ?_ ?_ ?_ ?_ ?_ ?_ ?_ ?_ ?_ ?_ ?_ ?_ ?_ ?_ ?_ ?_ ?_ ?_ ?_ ?_ ?_ ?_ ?_ ?_ ?_ ?_ ?_ ?_ ?_ ?_ ?_ ?_ ?_ ?_ ?_ ?_ ?_ ?_ ?_ ?_ ?_ ?_ ?_ ?_ ?_ ?_ ?_ ?_ ?_ ?_ ?_ ?_ ?_ ?_ ?_ ?_ ?_ ?_ ?_ ?_ ?_ ?_ ?_ ?_ ?_ ?_ ?_ ?_ ?_ ?_ ?_ ?_ ?_ ?_ ?_ ?_ ?_ ?_ ?_ ?_ ?_ ?_ ?_ ?_ ?_ ?_ ?_ ?_ ?_ ?_ ?_ ?_ ?_ ?_ ?_ ?_ ?_ ?_ ?_ ?_ ?_ ?_ ?_ ?_ ?_ ?_ ?_ ?_ ?_ ?_ ?_ ?_ ?_ ?_ ?_ ?_ ?_ ?_ ?_ ?_ ?_ ?_ ?_ ?_ ?_ ?_ ?_ ?_ ?_
  all_goals first|k_is|(show(_:Prop);constructor<;>first|(show _=_;k_is)|k_exc|(constructor<;>(show _=_;k_is)))|skip
#print axioms PySem.Challenge.cw_quotefind_k23_backwards_holds
