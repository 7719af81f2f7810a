/- A pack of texts: EdRDo, EdDo. -/
import Derived.Test.YtcekcihijdipoaaGreatPD39
import Derived.Test.YtcekcihijdipoaaGreatPD40
import Derived.Test.YtcekcihijdipoaaGreatPD41
import Derived.Test.YtcekcihijdipoaaGreatPD42
namespace Go.Proofs.YtcekcihijdipoaaGreat
set_option maxRecDepth 100000
set_option maxHeartbeats 16000000
open Go.RowKit Go.ChangeShapes Go.WideShapes Go.ChangeAt
set_option linter.unusedSimpArgs false
set_option linter.unusedVariables false
attribute [local go_sem] qn qZ A2 zg zz zA t5 qJ zf qO qD t6
section
def rdS (i:Nat):List Nat:=match i with|0=>[26]|1=>[27]|2=>[28]|3=>[29]|4=>[25]|5=>[30]|6=>[31]|7=>[32]|8=>[7]|9=>[8]|10=>[7]|11=>[8]|_=>[]
def rdΦ (T:World) (cs ce:List Value) (s:Sc) (A Bq C er:Int) (S:Sc) (i:Nat) (t:Nat→Value) (D:Nat→Bool) (w':World):Prop:=match i with
 |0=>t 26=.agg cs.toArray
 |1=>∃h' x',t 27=.agg (qa h').toArray∧(D 3=false→zi T w' h' x' s)
 |2=>t 28=.agg ce.toArray
 |3=>∃h' x',t 29=.tuple #[.agg (qa h').toArray,.agg #[.int .i64 A,.int .i64 Bq,.int .i64 C],.int .i64 er]∧D 3=true∧(er=0→zi T w' h' x' S)
 |4=>∃h' x',t 25=.tuple #[.agg (qa h').toArray,.agg #[.int .i64 A,.int .i64 Bq,.int .i64 C],.int .i64 er]∧D 3=true∧(er=0→zi T w' h' x' S)
 |5=>∃h' x',t 30=.agg (qa h').toArray∧D 3=true∧(er=0→zi T w' h' x' S)
 |6=>t 31=.agg #[.int .i64 A,.int .i64 Bq,.int .i64 C]
 |7=>t 32=.int .i64 er
 |8=>∃p,t 7=.pointer (some ⟨p,0,none⟩)∧T.heap.size≤p∧(D 10=false→w'.heap[p]?=some (.cells (qa sh0).toArray 34))
 |9=>∃p,t 8=.pointer (some ⟨p,0,none⟩)∧T.heap.size≤p∧(D 11=false→w'.heap[p]?=some (.cells #[.int .i64 0,.int .i64 0,.int .i64 0] 36))
 |10=>D 10=true∧D 3=true∧∃p h' x',t 7=.pointer (some ⟨p,0,none⟩)∧T.heap.size≤p∧w'.heap[p]?=some (.cells (qa h').toArray 34)∧(er=0→zi T w' h' x' S)
 |11=>D 11=true∧∃p,t 8=.pointer (some ⟨p,0,none⟩)∧T.heap.size≤p∧w'.heap[p]?=some (.cells #[.int .i64 A,.int .i64 Bq,.int .i64 C] 36)
 |_=>True
theorem a61(T:World)(cs ce:List Value)(s:Sc)(A Bq C er:Int)(S:Sc):∀i t t' D w D' w',rdΦ T cs ce s A Bq C er S i t D w→(∀s∈rdS i,t' s=t s)→a28 3 10 11 34 36 T.heap.size D w D' w'→rdΦ T cs ce s A Bq C er S i t' D' w':=by
 intro i t t' D w D' w' h_ hs' ht
 match i with
 |1=>obtain⟨h',x',e1,e3⟩:=h_;exact⟨h',x',(hs' 27 dc0).trans e1,fun q=>(e3 (ai1 ht q)).fil3 ht (.inr q) dc0 dc0⟩
 |3=>obtain⟨h',x',e1,e2,e3⟩:=h_;exact⟨h',x',(hs' 29 dc0).trans e1,ht.m 3 e2,fun q=>(e3 q).fil3 ht (.inl e2) dc0 dc0⟩
 |4=>obtain⟨h',x',e1,e2,e3⟩:=h_;exact⟨h',x',(hs' 25 dc0).trans e1,ht.m 3 e2,fun q=>(e3 q).fil3 ht (.inl e2) dc0 dc0⟩
 |5=>obtain⟨h',x',e1,e2,e3⟩:=h_;exact⟨h',x',(hs' 30 dc0).trans e1,ht.m 3 e2,fun q=>(e3 q).fil3 ht (.inl e2) dc0 dc0⟩
 |8=>obtain⟨p,e1,e2,e3⟩:=h_;exact⟨p,(hs' 7 dc0).trans e1,e2,fun q=>aa9 dc0 dc0 dc0 ht (.inl ⟨rfl,rfl⟩) (e3 (ai1 ht q)) (.inr q)⟩
 |9=>obtain⟨p,e1,e2,e3⟩:=h_;exact⟨p,(hs' 8 dc0).trans e1,e2,fun q=>aa9 dc0 dc0 dc0 ht (.inr ⟨rfl,rfl⟩) (e3 (ai1 ht q)) (.inr q)⟩
 |10=>obtain⟨q1,e2,p,h',x',e1,eB,ek,e3⟩:=h_;exact⟨ht.m 10 q1,ht.m 3 e2,p,h',x',(hs' 7 dc0).trans e1,eB,aa9 dc0 dc0 dc0 ht (.inl ⟨rfl,rfl⟩) ek (.inl q1),fun q=>(e3 q).fil3 ht (.inl e2) dc0 dc0⟩
 |11=>obtain⟨q1,p,e1,eB,ek⟩:=h_;exact⟨ht.m 11 q1,p,(hs' 8 dc0).trans e1,eB,aa9 dc0 dc0 dc0 ht (.inr ⟨rfl,rfl⟩) ek (.inl q1)⟩
 |0|2|6|7=>exact(hs' _ dc0).trans h_
 |i+12=>trivial
def rvS (i:Nat):List Nat:=match i with|0=>[38]|1=>[39]|2=>[]|_=>[]
def rvΦ (qs:Nat) (cu:List Value) (A B C:Int) (gq:Option Nat) (i:Nat) (t:Nat→Value) (D:Nat→Bool) (w':World):Prop:=match i with
 |0=>t 38=.agg cu.toArray
 |1=>t 39=.agg #[.int .i64 A,.int .i64 B,.int .i64 C]
 |2=>D 2=true∧w'.heap[qs]?=some (.cells cu.toArray 34)
 |_=>True
theorem a5O(qs:Nat)(cu:List Value)(A B C:Int)(gq:Option Nat):∀i t t' D w D' w',rvΦ qs cu A B C gq i t D w→(∀s∈rvS i,t' s=t s)→N8 2 [] gq D w D' w'→rvΦ qs cu A B C gq i t' D' w':=by
 intro i t t' D w D' w' h_ hs' ht
 match i with
 |2=>exact⟨ht.m 2 h_.1,i7 (C7 ht h_.1) h_.2⟩
 |0|1=>exact(hs' _ dc0).trans h_
 |i+3=>trivial
theorem ap3{h:SH}{x:SX}{s:Sc}{w:World}(hA:Zu w h x s):Calls Tryz.prog 46 #[.agg (qa h).toArray] w fun e w'=>e=.returned (.bool (C2 s))∧∃y,w'=plus w y:=a0D h x s w hA.g hA.r hA.small
theorem a8i{h:SH}{x:SX}{s:Sc}{e:EH}{n:Nd}{m:Ms}{t:Tp}{w:World}(hA:Zu w h x s)(hm:C2 s=false):
  Calls Tryz.prog 23 #[.agg (qa h).toArray,.agg (fE e).toArray] w fun r w'=>az4 w s (qt e n m t) r w':=by
 have hDE:P7 s (qt e n m t)=8:=by rw[P7,hm];rfl
 have ik:(fE e)[0]?=some (.int .u8 e.kind):=rfl;obtain⟨ce,hce⟩:∃c,fE e=c:=⟨_,rfl⟩;have lce:ce.length=45:=by rw[←hce];rfl
 have ace:ce.toArray.size=45:=by simpa using lce
 obtain⟨cs,hcs⟩:∃c,qa h=c:=⟨_,rfl⟩;have lcs:cs.length=7:=by rw[←hcs];rfl
 have acs:cs.toArray.size=7:=by simpa using lcs
 have cs1:∀u∈cs,u.oneCell'=true:=by rw[←hcs];exact qX h
 have CK:a7l 46 w cs (.bool (C2 s)):=⟨fun w' hw=>hcs▸ap3 (hA.ex hw)⟩;rw[hm]at CK;rw[hce]at ik ⊢;rw[hcs];obtain⟨q,hq⟩:∃q,w.heap.size=q:=⟨_,rfl⟩;go_enter Tryz.func23,Tryz.ntmps23;go_upto_region 1 with fail;refine qz (fun w'=>(∃y,w'=plus w y)∧w'.heap[q]?=some (.cells cs.toArray 34)∧w'.heap[q+1]?=some (.cells ce.toArray 66)∧w'.heap[q+2]?=some (.cells (qa sh0).toArray 34)∧w'.heap[q+3]?=some (.cells #[.int .i64 0,.int .i64 0,.int .i64 0] 36)∧w'.heap.size=q+4) ⟨sk9,hq▸qm (qm (qm (qc _ _))),?b1,?b2,?b3,by rw[j8,j8,j8,j8,hq]⟩ ?_
 case b1=>rw[←hq,←j8 w (.cells cs.toArray 34)];exact qm (qm (qc _ _))
 case b2=>rw[show q+2=((w.alloc (.cells cs.toArray 34)).alloc (.cells ce.toArray 66)).heap.size by rw[j8,j8,hq]];exact qm (qc _ _)
 case b3=>rw[show q+3=(((w.alloc (.cells cs.toArray 34)).alloc (.cells ce.toArray 66)).alloc (.cells (qa sh0).toArray 34)).heap.size by rw[j8,j8,j8,hq]];exact qc _ _
 try simp only[hq]
 rintro w1 ⟨x1,k0,k1,k2,k3,zq⟩;go_upto_region 2 with(first|(with_reducible refine wpList_load_row rfl 34 (Operand.tmp 2) rfl q kr0 _ _ _ _ (i7 (sk9) k0) Tryz.underlying34 rfl (by rw[acs];kernel_rfl) ?_)|(go_at_call 46;refine(CK.it _ (i9 x1 sk9)).mono ?_;rintro r w2 ⟨rfl,nx2,rfl⟩));go_wp2_with (first|(refine j6 rfl 34 (Operand.tmp 4) _ rfl (q+2) (qa sh0) rfl rfl 34 (qa sh0).toArray (by exact i7 sk9 k2) kr0 kr0 (qX _) ?_)|(refine j6 rfl 36 (Operand.tmp 5) _ rfl (q+3) [.int .i64 0,.int .i64 0,.int .i64 0] rfl rfl 36 #[.int .i64 0,.int .i64 0,.int .i64 0] (by exact l9 (i7 sk9 k3) om0) kr0 rfl (by intro v hv;simp at hv;first|(subst hv;rfl)|(rcases hv with rfl|rfl<;>rfl)|(rcases hv with rfl|rfl|rfl<;>rfl)) ?_));exact bodyPost_ret (qy Tryz.results23 _ _ (q+2) (q+3) 34 36 (qa sh0).toArray #[.int .i64 0,.int .i64 0,.int .i64 0] _ _ (.int .i64 8) rfl rfl rfl (l9 (p9 (i7 sk9 k2)) om0) (p9 (l9 (i7 sk9 k3) om0)) Tryz.underlying34 rfl kr0 Tryz.underlying36 rfl kr0) rfl (V9 hDE (by first|assumption|decide) (ql (ql (i9 x1 sk9) om0) om0))
theorem a8a{h:SH}{x:SX}{s:Sc}{e:EH}{n:Nd}{m:Ms}{t:Tp}{w:World}(hA:Zu w h x s)(hm:C2 s=true)(hb:e.kind<1∨8<e.kind):
  Calls Tryz.prog 23 #[.agg (qa h).toArray,.agg (fE e).toArray] w fun r w'=>az4 w s (qt e n m t) r w':=by
 have hDE:P7 s (qt e n m t)=2:=by rw[P7,hm,if_pos rfl,a3h hb]
 have ik:(fE e)[0]?=some (.int .u8 e.kind):=rfl;obtain⟨ce,hce⟩:∃c,fE e=c:=⟨_,rfl⟩;have lce:ce.length=45:=by rw[←hce];rfl
 have ace:ce.toArray.size=45:=by simpa using lce
 obtain⟨cs,hcs⟩:∃c,qa h=c:=⟨_,rfl⟩;have lcs:cs.length=7:=by rw[←hcs];rfl
 have acs:cs.toArray.size=7:=by simpa using lcs
 have cs1:∀u∈cs,u.oneCell'=true:=by rw[←hcs];exact qX h
 have CK:a7l 46 w cs (.bool (C2 s)):=⟨fun w' hw=>hcs▸ap3 (hA.ex hw)⟩;rw[hm]at CK;rw[hce]at ik ⊢;rw[hcs];obtain⟨q,hq⟩:∃q,w.heap.size=q:=⟨_,rfl⟩;go_enter Tryz.func23,Tryz.ntmps23;go_upto_region 1 with fail;refine qz (fun w'=>(∃y,w'=plus w y)∧w'.heap[q]?=some (.cells cs.toArray 34)∧w'.heap[q+1]?=some (.cells ce.toArray 66)∧w'.heap[q+2]?=some (.cells (qa sh0).toArray 34)∧w'.heap[q+3]?=some (.cells #[.int .i64 0,.int .i64 0,.int .i64 0] 36)∧w'.heap.size=q+4) ⟨sk9,hq▸qm (qm (qm (qc _ _))),?b1,?b2,?b3,by rw[j8,j8,j8,j8,hq]⟩ ?_
 case b1=>rw[←hq,←j8 w (.cells cs.toArray 34)];exact qm (qm (qc _ _))
 case b2=>rw[show q+2=((w.alloc (.cells cs.toArray 34)).alloc (.cells ce.toArray 66)).heap.size by rw[j8,j8,hq]];exact qm (qc _ _)
 case b3=>rw[show q+3=(((w.alloc (.cells cs.toArray 34)).alloc (.cells ce.toArray 66)).alloc (.cells (qa sh0).toArray 34)).heap.size by rw[j8,j8,j8,hq]];exact qc _ _
 try simp only[hq]
 rintro w1 ⟨x1,k0,k1,k2,k3,zq⟩;have e0:=k9 k1 ik;have l1:=qi k1;by_cases h1:e.kind<1<;>(first
  |(have d1:=decide_eq_true h1)
  |(have d1:=decide_eq_false h1
    have d8:decide (8<e.kind)=true:=decide_eq_true om0))<;>(
  go_upto_region 4 with(first|(with_reducible refine wpList_load_row rfl 34 (Operand.tmp 2) rfl q kr0 _ _ _ _ (i7 (sk9) k0) Tryz.underlying34 rfl (by rw[acs];kernel_rfl) ?_)|(go_at_call 46;refine(CK.it _ (i9 x1 sk9)).mono ?_;rintro r w2 ⟨rfl,nx2,rfl⟩));go_wp2_with (first|(refine j6 rfl 34 (Operand.tmp 4) _ rfl (q+2) (qa sh0) rfl rfl 34 (qa sh0).toArray (by exact i7 sk9 k2) kr0 kr0 (qX _) ?_)|(refine j6 rfl 36 (Operand.tmp 5) _ rfl (q+3) [.int .i64 0,.int .i64 0,.int .i64 0] rfl rfl 36 #[.int .i64 0,.int .i64 0,.int .i64 0] (by exact l9 (i7 sk9 k3) om0) kr0 rfl (by intro v hv;simp at hv;first|(subst hv;rfl)|(rcases hv with rfl|rfl<;>rfl)|(rcases hv with rfl|rfl|rfl<;>rfl)) ?_));exact bodyPost_ret (qy Tryz.results23 _ _ (q+2) (q+3) 34 36 (qa sh0).toArray #[.int .i64 0,.int .i64 0,.int .i64 0] _ _ (.int .i64 2) rfl rfl rfl (l9 (p9 (i7 sk9 k2)) om0) (p9 (l9 (i7 sk9 k3) om0)) Tryz.underlying34 rfl kr0 Tryz.underlying36 rfl kr0) rfl (V9 hDE (by first|assumption|decide) (ql (ql (i9 x1 sk9) om0) om0)))
theorem a8l{h:SH}{x:SX}{s:Sc}{e:EH}{w:World}(hA:Zu w h x s)(hm:C2 s=true)(hk:1≤e.kind∧e.kind≤8){S:Sc}{A B C er:Int}(her:er≠0→A=0∧B=0∧C=0)
  (DC:∀T w' h1 x1,(∃y,T=plus w y)→(∃y,w'=plus T y)→zi T w' h1 x1 s→Calls Tryz.prog 61 #[.agg (qa h1).toArray,.agg (fE e).toArray] w' fun r w''=>Z0 w' T S A B C er r w''):
  Calls Tryz.prog 23 #[.agg (qa h).toArray,.agg (fE e).toArray] w fun r w'=>a8d w S A B C er r w':=by
 have ik:(fE e)[0]?=some (.int .u8 e.kind):=rfl;obtain⟨ce,hce⟩:∃c,fE e=c:=⟨_,rfl⟩;have lce:ce.length=45:=by rw[←hce];rfl
 have ace:ce.toArray.size=45:=by simpa using lce
 obtain⟨cs,hcs⟩:∃c,qa h=c:=⟨_,rfl⟩;have lcs:cs.length=7:=by rw[←hcs];rfl
 have acs:cs.toArray.size=7:=by simpa using lcs
 have cs1:∀u∈cs,u.oneCell'=true:=by rw[←hcs];exact qX h
 have CK:a7l 46 w cs (.bool (C2 s)):=⟨fun w' hw=>hcs▸ap3 (hA.ex hw)⟩;rw[hm]at CK;rw[hce]at ik ⊢;rw[hcs];obtain⟨q,hq⟩:∃q,w.heap.size=q:=⟨_,rfl⟩;have RT:∀w',(∃y,w'=plus w y)→Calls Tryz.prog 14 #[.agg cs.toArray] w' fun e w''=>∃h' x',e=.returned (.agg (qa h').toArray)∧(∃y,w''=plus w' y)∧zi w' w'' h' x' s:=fun w' hw=>hcs▸at8 (hA.ex hw)
 rw[hce]at DC
 replace DC:=qw.mk DC
 replace her:=qw.mk her
 go_enter Tryz.func23,Tryz.ntmps23;go_upto_region 1 with fail;refine qz (fun w'=>(∃y,w'=plus w y)∧w'.heap[q]?=some (.cells cs.toArray 34)∧w'.heap[q+1]?=some (.cells ce.toArray 66)∧w'.heap[q+2]?=some (.cells (qa sh0).toArray 34)∧w'.heap[q+3]?=some (.cells #[.int .i64 0,.int .i64 0,.int .i64 0] 36)∧w'.heap.size=q+4) ⟨sk9,hq▸qm (qm (qm (qc _ _))),?b1,?b2,?b3,by rw[j8,j8,j8,j8,hq]⟩ ?_
 case b1=>rw[←hq,←j8 w (.cells cs.toArray 34)];exact qm (qm (qc _ _))
 case b2=>rw[show q+2=((w.alloc (.cells cs.toArray 34)).alloc (.cells ce.toArray 66)).heap.size by rw[j8,j8,hq]];exact qm (qc _ _)
 case b3=>rw[show q+3=(((w.alloc (.cells cs.toArray 34)).alloc (.cells ce.toArray 66)).alloc (.cells (qa sh0).toArray 34)).heap.size by rw[j8,j8,j8,hq]];exact qc _ _
 try simp only[hq]
 rintro w1 ⟨x1,k0,k1,k2,k3,zq⟩;have e0:=k9 k1 ik;have l1:=qi k1;have d1:decide (e.kind<1)=false:=decide_eq_false om0;have d8:decide (8<e.kind)=false:=decide_eq_false om0;go_upto_region 5 with(first|(with_reducible refine wpList_load_row rfl 34 (Operand.tmp 2) rfl q kr0 _ _ _ _ (i7 (sk9) k0) Tryz.underlying34 rfl (by rw[acs];kernel_rfl) ?_)|(go_at_call 46;refine(CK.it _ (i9 x1 sk9)).mono ?_;rintro r w2 ⟨rfl,nx2,rfl⟩));refine qz (fun w'=>∃y,w'=plus w1 y) sk9 ?_;rintro w4 x04;have k0_:=i7 x04 k0;have k1_:=i7 x04 k1;have k2_:=i7 x04 k2;have k3_:=i7 x04 k3;have zq4:=qu x04;have x14:=i9 x1 x04;clear k0 k1 k2 k3 e0 l1 x04 d1 d8 CK;obtain⟨k0,k1,k2,k3⟩:=And.intro k0_ (And.intro k1_ (And.intro k2_ k3_));clear k0_ k1_ k2_ k3_;have RT:∀w',(∃y,w'=plus w4 y)→_:=fun w' hw=>RT w' (i9 x14 hw)
 replace RT:=qw.mk RT
 refine zR 12 rdS (rdΦ w4 cs ce s A B C er S) (a28 3 10 11 34 36 w4.heap.size) (a3B dc0 dc0 dc0) (a4g _) kr0 kr0 dc0 (a61 w4 cs ce s A B C er S) ?steps ?fin
 case steps=>
  refine⟨?_,?_,?_,?_,?_,?_,?_,?_,?_,?_,?_,?_,trivial⟩<;>intro a D w' hg hfree hdeep hD
  ·obtain⟨x9,rfl⟩:=QN hg (j5 _) (Nat.le_refl _);have f2_:=hfree 2 kr0;simp only[rdΦ,got]at f2_;simp[go_sem]at f2_;unfold Oper.wp;rw[zP 34 (Operand.tmp 2) rfl q 0 (by simp[Act.eval,f2_]) cs _ (fun j v hj=>by rw[Nat.zero_add];exact qf ⟨x9,rfl⟩ (k9 k0 hj)) Tryz.underlying34 rfl (by rw[lcs];kernel_rfl)];exact⟨_,rfl,O2 (j5 _),by simp[rdΦ,upd]⟩
  ·obtain⟨x9,rfl⟩:=QN hg (j5 _) (Nat.le_refl _);have d0:=hdeep 0 kr0;simp only[rdΦ,got]at d0;simp[go_sem]at d0;unfold Oper.wp;simp[go_sem,execOp,Act.eval,↓IntWalk.iteOmega,d0];refine(RT.it _ ⟨x9,rfl⟩).mono ?_;rintro r w5 ⟨h',x',rfl,hx,ho⟩;exact⟨_,rfl,O2 hx,h',x',by simp[upd],fun _=>ho.base (qu ⟨x9,rfl⟩)⟩
  ·obtain⟨x9,rfl⟩:=QN hg (j5 _) (Nat.le_refl _);have f3_:=hfree 3 kr0;simp only[rdΦ,got]at f3_;simp[go_sem]at f3_;unfold Oper.wp;rw[zP 66 (Operand.tmp 3) rfl (q+1) 0 (by simp[Act.eval,f3_]) ce _ (fun j v hj=>by rw[Nat.zero_add];exact qf ⟨x9,rfl⟩ (k9 k1 hj)) Tryz.underlying66 rfl (by rw[lce];kernel_rfl)];exact⟨_,rfl,O2 (j5 _),by simp[rdΦ,upd]⟩
  ·obtain⟨x9,rfl⟩:=QN hg (j5 _) (Nat.le_refl _);obtain⟨h1,x1',e27,o1⟩:=hdeep 1 kr0;have e28:=hdeep 2 kr0;have g27:=e27;simp only[rdΦ,got]at g27 e28;simp at g27 e28;unfold Oper.wp;simp[go_sem,execOp,Act.eval,↓IntWalk.iteOmega,g27,e28];refine(DC.it w4 _ h1 x1' x14 ⟨x9,rfl⟩ (o1 hD)).mono ?_;rintro r w5 ⟨h',x',rfl,hx,hk,ho⟩;exact⟨_,rfl,a70 ⟨x9,rfl⟩ hx hk hD,h',x',by simp[upd],y9 _,ho⟩
  ·obtain⟨x9,rfl⟩:=QN hg (j5 _) (Nat.le_refl _);obtain⟨h',x',e5,e3,o5⟩:=hdeep 3 kr0;have g5:=e5;simp only[got]at g5;simp at g5;unfold Oper.wp;simp[go_sem,execOp,Act.eval,↓IntWalk.iteOmega,g5];exact⟨_,rfl,O2 (j5 _),h',x',by simp[upd],G3 e3,o5⟩
  ·obtain⟨x9,rfl⟩:=QN hg (j5 _) (Nat.le_refl _);obtain⟨h',x',e5,e3,o5⟩:=hdeep 4 kr0;have g5:=e5;simp only[got]at g5;simp at g5;unfold Oper.wp;simp[go_sem,execOp,Act.eval,↓IntWalk.iteOmega,g5];exact⟨_,rfl,O2 (j5 _),h',x',by simp[upd],G3 e3,o5⟩
  ·obtain⟨x9,rfl⟩:=QN hg (j5 _) (Nat.le_refl _);obtain⟨h',x',e5,e3,o5⟩:=hdeep 4 kr0;have g5:=e5;simp only[got]at g5;simp at g5;unfold Oper.wp;simp[go_sem,execOp,Act.eval,↓IntWalk.iteOmega,g5];exact⟨_,rfl,O2 (j5 _),by simp[rdΦ,upd]⟩
  ·obtain⟨x9,rfl⟩:=QN hg (j5 _) (Nat.le_refl _);obtain⟨h',x',e5,e3,o5⟩:=hdeep 4 kr0;have g5:=e5;simp only[got]at g5;simp at g5;unfold Oper.wp;simp[go_sem,execOp,Act.eval,↓IntWalk.iteOmega,g5];exact⟨_,rfl,O2 (j5 _),by simp[rdΦ,upd]⟩
  ·obtain⟨x9,rfl⟩:=QN hg (j5 _) (Nat.le_refl _);unfold Oper.wp;simp[go_sem,execOp,Act.eval,↓IntWalk.iteOmega];exact⟨_,rfl,O2 (qE (j5 _)),w4.heap.size+(blocks x9).size,by simp[upd],om0,fun _=>by(rw[qe,if_pos (by rw[qn])]<;>rfl)⟩
  ·obtain⟨x9,rfl⟩:=QN hg (j5 _) (Nat.le_refl _);unfold Oper.wp;simp[go_sem,execOp,Act.eval,↓IntWalk.iteOmega];exact⟨_,rfl,O2 (qE (j5 _)),w4.heap.size+(blocks x9).size,by simp[upd],om0,fun _=>by(rw[qe,if_pos (by rw[qn])]<;>rfl)⟩
  ·obtain⟨p,e8,hBp,hz⟩:=hdeep 8 kr0;obtain⟨h',x',e53,e3,o5⟩:=hdeep 5 kr0;have g8:=e8;have g53:=e53;simp only[got]at g8 g53;simp at g8 g53;have hz':=hz hD;refine wp_store_row 34 (Operand.tmp 7) (Operand.tmp 30) rfl p (qa h').toArray (by simp[Act.eval,g8]) (by simp[Act.eval,g53]) _ _ hz' kr0 kr0 (Array.all_eq_true_iff_forall_mem.2 fun v hv=>qX h' v (by simpa using hv)) ?_;exact⟨_,rfl,a27 (.inl ⟨rfl,rfl⟩) hD hBp hz',y9 _,G3 e3,p,h',x',by simp[upd];exact e8,hBp,p9 hz',fun q=>(o5 q).row_other hz' dc0⟩
  ·obtain⟨p,e9,hBp,hz⟩:=hdeep 9 kr0;have e54:=hdeep 6 kr0;have g9:=e9;simp only[rdΦ,got]at g9 e54;simp at g9 e54;have hz':=hz hD;refine wp_store_row 36 (Operand.tmp 8) (Operand.tmp 31) rfl p #[.int .i64 A,.int .i64 B,.int .i64 C] (by simp[Act.eval,g9]) (by simp[Act.eval,e54]) _ _ hz' kr0 kr0 kr0 ?_;exact⟨_,rfl,a27 (.inr ⟨rfl,rfl⟩) hD hBp hz',y9 _,p,by simp[upd];exact e9,hBp,p9 hz'⟩
 case fin=>
  rintro t D w8 hDa hg hΦ;have e32:=hΦ 7 dc0;obtain⟨_,_,p7,h',x',e7,hp7,kp7,own⟩:=hΦ 10 dc0;obtain⟨_,p8,e8,hp8,kp8⟩:=hΦ 11 dc0;simp only[rdΦ]at e32;have x8:=QN hg (j5 w4) (Nat.le_refl _);simp only[zh,List.take_succ_cons,List.take_zero,List.drop_succ_cons,List.drop_zero,e7,e8,e32];simp only[Act.put];simp only[List.setIfInBounds_toArray,List.set_cons_succ,List.set_cons_zero];clear hΦ e7 e8 e32 hg hDa DC RT;have k2_:=i7 x8 k2;have k3_:=i7 x8 k3;have l3:=qi k3;clear k0 k1 k2 k3;obtain⟨k2,k3⟩:=And.intro k2_ k3_;clear k2_ k3_;by_cases h0:er=0;rotate_left
  ·obtain⟨rfl,rfl,rfl⟩:=her.it h0;have d0:(er==0)=false:=by rw[beq_eq_false_iff_ne];exact h0
   go_wp2_with (first|(refine j6 rfl 34 (Operand.tmp 4) _ rfl (q+2) (qa sh0) rfl rfl 34 (qa sh0).toArray (by exact i7 sk9 k2) kr0 kr0 (qX _) ?_)|(refine j6 rfl 36 (Operand.tmp 5) _ rfl (q+3) [.int .i64 0,.int .i64 0,.int .i64 0] rfl rfl 36 #[.int .i64 0,.int .i64 0,.int .i64 0] (by exact l9 (i7 sk9 k3) om0) kr0 rfl (by intro v hv;simp at hv;first|(subst hv;rfl)|(rcases hv with rfl|rfl<;>rfl)|(rcases hv with rfl|rfl|rfl<;>rfl)) ?_));exact bodyPost_ret (qy Tryz.results23 _ _ (q+2) (q+3) 34 36 (qa sh0).toArray #[.int .i64 0,.int .i64 0,.int .i64 0] _ _ (.int .i64 er) rfl rfl rfl (l9 (p9 (i7 sk9 k2)) om0) (p9 (l9 (i7 sk9 k3) om0)) Tryz.underlying34 rfl kr0 Tryz.underlying36 rfl kr0) rfl ⟨sh0,sx0,rfl,ql (ql (i9 x14 (i9 x8 sk9)) om0) om0,fun e0=>absurd e0 h0,fun _=>⟨rfl,rfl⟩⟩
  subst h0
  replace own:=own (by first|rfl|trivial)
  obtain⟨cu,hcu⟩:∃c,qa h'=c:=⟨_,rfl⟩;have lcu:cu.length=7:=by rw[←hcu];rfl
  have acu:cu.toArray.size=7:=by simpa using lcu
  have hcu1:∀u∈cu,u.oneCell'=true:=by rw[←hcu];exact qX h'
  rw[hcu]at kp7;go_upto_region 8 with fail;refine qz (fun w'=>∃y,w'=plus w8 y) sk9 ?_;rintro w9 x89;have x49:=i9 x8 x89;have k2_:=i7 x89 k2;have k3_:=i7 x89 k3;have kp7_:=i7 x89 kp7;have kp8_:=i7 x89 kp8
  replace own:=own.ex x89
  clear k2 k3 kp7 kp8 x8 x89;obtain⟨k2,k3,kp7,kp8⟩:=And.intro k2_ (And.intro k3_ (And.intro kp7_ kp8_));clear k2_ k3_ kp7_ kp8_;refine zR 3 rvS (rvΦ (q+2) cu A B C (some (q+2))) (N8 2 [] (some (q+2))) P3 (QP _) kr0 kr0 dc0 (a5O (q+2) cu A B C (some (q+2))) ?steps ?fin
  case steps=>
   refine⟨?_,?_,?_,trivial⟩<;>intro a D w' hg hfree hdeep hD
   ·have f7_:=hfree 7 kr0;simp only[rvΦ,got]at f7_;simp[go_sem]at f7_;have kq:=qI hg.t (fun e=>by cases e<;>omega) kp7;unfold Oper.wp;rw[zP 34 (Operand.tmp 7) rfl p7 0 (by simp[Act.eval,f7_]) cu _ (fun j v hj=>by rw[Nat.zero_add];exact k9 kq hj) Tryz.underlying34 rfl (by rw[lcu];kernel_rfl)];exact⟨_,rfl,qp dc0 (j5 _),by simp[rvΦ,upd]⟩
   ·have f8_:=hfree 8 kr0;simp only[rvΦ,got]at f8_;simp[go_sem]at f8_;have kb:=qI hg.t (fun e=>by cases e<;>omega) kp8;have e0:w'.cell? ⟨p8,0,none⟩=some (.int .i64 A):=i6 kb rfl;have e1:w'.cell? ⟨p8,1,none⟩=some (.int .i64 B):=i6 kb rfl;have e2:w'.cell? ⟨p8,2,none⟩=some (.int .i64 C):=i6 kb rfl;unfold Oper.wp;simp[go_sem,execOp,Act.eval,↓IntWalk.iteOmega,f8_,e0,e1,e2];exact⟨_,rfl,qp dc0 (j5 _),by simp[rvΦ,upd]⟩
   ·have f4_:=hfree 4 kr0;have e1:=hdeep 0 kr0;simp only[rvΦ,got]at e1 f4_;simp at e1;simp[go_sem]at f4_;obtain⟨x9,rfl⟩:=B7 hg.t hD;have k2':=i7 (w':=plus w9 x9) ⟨x9,rfl⟩ k2;refine wp_store_row 34 (Operand.tmp 4) (Operand.tmp 38) rfl (q+2) cu.toArray (by simp[Act.eval,f4_]) (by simp[Act.eval,e1]) _ _ k2' (by rw[acu];kernel_rfl) (by rw[acu];kernel_rfl) (Array.all_eq_true_iff_forall_mem.2 fun v hv=>hcu1 v (by simpa using hv)) ?_;exact⟨_,rfl,aj9 Qg hD (fun r hr=>by cases hr),y9 _,p9 k2'⟩
  case fin=>
   rintro t D w10 hDa hg hΦ;have e39:=hΦ 1 dc0;obtain⟨_,k28⟩:=hΦ 2 dc0;simp only[rvΦ]at e39;have k38:=qI hg.t (fun e=>by cases e<;>omega) k3
   replace own:=own.grown_ty hg.t.grow k2 dc0
   have x78:=ZF hg.t (i9 x14 x49) (fun k e=>by cases e;omega);simp only[zh,List.take_succ_cons,List.take_zero,List.drop_succ_cons,List.drop_zero,e39];simp only[Act.put];simp only[List.setIfInBounds_toArray,List.set_cons_succ,List.set_cons_zero];clear hΦ e39 hg hDa k2 k3 kp7 kp8;go_wp2_with (refine j6 rfl 36 (Operand.tmp 5) _ rfl (q+3) [.int .i64 A,.int .i64 B,.int .i64 C] rfl rfl _ _ (i7 sk9 k38) kr0 rfl (by intro v hv;simp at hv;rcases hv with rfl|rfl|rfl<;>rfl) ?_);exact bodyPost_ret (qy Tryz.results23 _ _ (q+2) (q+3) 34 36 cu.toArray #[.int .i64 A,.int .i64 B,.int .i64 C] _ _ (.int .i64 0) rfl rfl rfl (l9 (i7 sk9 k28) om0) (p9 (i7 sk9 k38)) Tryz.underlying34 rfl (by rw[acu];kernel_rfl) Tryz.underlying36 rfl kr0) rfl ⟨h',x',by rw[hcu],ql (i9 x78 sk9) om0,fun _=>((own.ex sk9).row_other (i7 sk9 k38) dc0).base (qu x14),fun e0=>absurd rfl e0⟩
theorem a4l{h:SH}{x:SX}{s:Sc}{e:EH}{ps:List PH}{n:Nd}{m:Ms}{t:Tp}{w:World}(hA:Zu w h x s)(hE:I9 w e ps n m t)(hfar:e.nd.n≤10000):
  Calls Tryz.prog 23 #[.agg (qa h).toArray,.agg (fE e).toArray] w fun r w'=>az4 w s (qt e n m t) r w':=by
 cases hm:C2 s
 ·exact a8i hA hm
 by_cases hb:e.kind<1∨8<e.kind
 ·exact a8a hA hm hb
 have hk:e.kind=1∨e.kind=2∨e.kind=3∨e.kind=4∨e.kind=5∨e.kind=6∨e.kind=7∨e.kind=8:=om0;have hde:P7 s (qt e n m t)=qF s (qt e n m t):=by rw[P7,hm,if_pos rfl]
 have her:P7 s (qt e n m t)≠0→(qT s (qt e n m t)).1=0∧(qT s (qt e n m t)).2=0∧v8 s (qt e n m t)=0:=fun h0=>by
  obtain⟨_,h2,h3⟩:=QG rfl h0;rw[h2,h3];exact⟨rfl,rfl,rfl⟩
 refine(a8l (S:=K7 s (qt e n m t)) hA hm om0 her fun T w' h1 x1 hT hw O=>?_).mono ?_;rotate_left
 ·rintro r w' ⟨h',x',e0,hw,h1,h2⟩;refine⟨h',x',e0,hw,?_⟩;by_cases hz:P7 s (qt e n m t)=0
  ·rw[a4Z,if_pos hz];exact h1 hz
  ·obtain⟨rfl,rfl⟩:=h2 hz;rw[(QG rfl hz).1];exact a1S
 have hE1:=hE.ex hT;rcases hk with k1|k2|k3|k4|k5|k6|k7|k8
 ·have q1:(qT s (qt e n m t)).1=(if qF s (qt e n m t)=0 then zb s.g.sl else 0):=(by first|(rw[qT,hde];simp[qt,k1];done)|(rw[qT,hde];by_cases h0:qF s (qt e n m t)=0<;>simp[h0];simp[qt,k1];done)|(rw[v8,hde];simp[qt,k1];done)|(rw[v8,hde,y7];simp only[qF,qt,k1];rfl));have q2:(qT s (qt e n m t)).2=(if qF s (qt e n m t)=0 then zQ s.g.sl else 0):=(by first|(rw[qT,hde];simp[qt,k1];done)|(rw[qT,hde];by_cases h0:qF s (qt e n m t)=0<;>simp[h0];simp[qt,k1];done)|(rw[v8,hde];simp[qt,k1];done)|(rw[v8,hde,y7];simp only[qF,qt,k1];rfl));have q3:v8 s (qt e n m t)=0:=(by first|(rw[qT,hde];simp[qt,k1];done)|(rw[qT,hde];by_cases h0:qF s (qt e n m t)=0<;>simp[h0];simp[qt,k1];done)|(rw[v8,hde];simp[qt,k1];done)|(rw[v8,hde,y7];simp only[qF,qt,k1];rfl));rw[q1,q2,q3,hde];exact a1N hw O hm e ps n m t hE1 hfar k1
 ·have q1:(qT s (qt e n m t)).1=0:=(by first|(rw[qT,hde];simp[qt,k2];done)|(rw[qT,hde];by_cases h0:qF s (qt e n m t)=0<;>simp[h0];simp[qt,k2];done)|(rw[v8,hde];simp[qt,k2];done)|(rw[v8,hde,y7];simp only[qF,qt,k2];rfl));have q2:(qT s (qt e n m t)).2=0:=(by first|(rw[qT,hde];simp[qt,k2];done)|(rw[qT,hde];by_cases h0:qF s (qt e n m t)=0<;>simp[h0];simp[qt,k2];done)|(rw[v8,hde];simp[qt,k2];done)|(rw[v8,hde,y7];simp only[qF,qt,k2];rfl));have q3:v8 s (qt e n m t)=0:=(by first|(rw[qT,hde];simp[qt,k2];done)|(rw[qT,hde];by_cases h0:qF s (qt e n m t)=0<;>simp[h0];simp[qt,k2];done)|(rw[v8,hde];simp[qt,k2];done)|(rw[v8,hde,y7];simp only[qF,qt,k2];rfl));rw[q1,q2,q3,hde];exact a2v hw O hm e ps n m t hE1 hfar k2
 ·have q1:(qT s (qt e n m t)).1=0:=(by first|(rw[qT,hde];simp[qt,k3];done)|(rw[qT,hde];by_cases h0:qF s (qt e n m t)=0<;>simp[h0];simp[qt,k3];done)|(rw[v8,hde];simp[qt,k3];done)|(rw[v8,hde,y7];simp only[qF,qt,k3];rfl));have q2:(qT s (qt e n m t)).2=0:=(by first|(rw[qT,hde];simp[qt,k3];done)|(rw[qT,hde];by_cases h0:qF s (qt e n m t)=0<;>simp[h0];simp[qt,k3];done)|(rw[v8,hde];simp[qt,k3];done)|(rw[v8,hde,y7];simp only[qF,qt,k3];rfl));have q3:v8 s (qt e n m t)=0:=(by first|(rw[qT,hde];simp[qt,k3];done)|(rw[qT,hde];by_cases h0:qF s (qt e n m t)=0<;>simp[h0];simp[qt,k3];done)|(rw[v8,hde];simp[qt,k3];done)|(rw[v8,hde,y7];simp only[qF,qt,k3];rfl));rw[q1,q2,q3,hde];exact a1M hw O hm e ps n m t hE1 hfar k3
 ·have q1:(qT s (qt e n m t)).1=0:=(by first|(rw[qT,hde];simp[qt,k4];done)|(rw[qT,hde];by_cases h0:qF s (qt e n m t)=0<;>simp[h0];simp[qt,k4];done)|(rw[v8,hde];simp[qt,k4];done)|(rw[v8,hde,y7];simp only[qF,qt,k4];rfl));have q2:(qT s (qt e n m t)).2=0:=(by first|(rw[qT,hde];simp[qt,k4];done)|(rw[qT,hde];by_cases h0:qF s (qt e n m t)=0<;>simp[h0];simp[qt,k4];done)|(rw[v8,hde];simp[qt,k4];done)|(rw[v8,hde,y7];simp only[qF,qt,k4];rfl));have q3:v8 s (qt e n m t)=0:=(by first|(rw[qT,hde];simp[qt,k4];done)|(rw[qT,hde];by_cases h0:qF s (qt e n m t)=0<;>simp[h0];simp[qt,k4];done)|(rw[v8,hde];simp[qt,k4];done)|(rw[v8,hde,y7];simp only[qF,qt,k4];rfl));rw[q1,q2,q3,hde];exact a1I hw O hm e ps n m t hE1 hfar k4
 ·have q1:(qT s (qt e n m t)).1=0:=(by first|(rw[qT,hde];simp[qt,k5];done)|(rw[qT,hde];by_cases h0:qF s (qt e n m t)=0<;>simp[h0];simp[qt,k5];done)|(rw[v8,hde];simp[qt,k5];done)|(rw[v8,hde,y7];simp only[qF,qt,k5];rfl));have q2:(qT s (qt e n m t)).2=0:=(by first|(rw[qT,hde];simp[qt,k5];done)|(rw[qT,hde];by_cases h0:qF s (qt e n m t)=0<;>simp[h0];simp[qt,k5];done)|(rw[v8,hde];simp[qt,k5];done)|(rw[v8,hde,y7];simp only[qF,qt,k5];rfl));have q3:v8 s (qt e n m t)=0:=(by first|(rw[qT,hde];simp[qt,k5];done)|(rw[qT,hde];by_cases h0:qF s (qt e n m t)=0<;>simp[h0];simp[qt,k5];done)|(rw[v8,hde];simp[qt,k5];done)|(rw[v8,hde,y7];simp only[qF,qt,k5];rfl));rw[q1,q2,q3,hde];exact a2q hw O hm e ps n m t hE1 hfar k5
 ·have q1:(qT s (qt e n m t)).1=0:=(by first|(rw[qT,hde];simp[qt,k6];done)|(rw[qT,hde];by_cases h0:qF s (qt e n m t)=0<;>simp[h0];simp[qt,k6];done)|(rw[v8,hde];simp[qt,k6];done)|(rw[v8,hde,y7];simp only[qF,qt,k6];rfl));have q2:(qT s (qt e n m t)).2=0:=(by first|(rw[qT,hde];simp[qt,k6];done)|(rw[qT,hde];by_cases h0:qF s (qt e n m t)=0<;>simp[h0];simp[qt,k6];done)|(rw[v8,hde];simp[qt,k6];done)|(rw[v8,hde,y7];simp only[qF,qt,k6];rfl));have q3:v8 s (qt e n m t)=y7 e.at' s.ms.length 32 (L3 m):=(by first|(rw[qT,hde];simp[qt,k6];done)|(rw[qT,hde];by_cases h0:qF s (qt e n m t)=0<;>simp[h0];simp[qt,k6];done)|(rw[v8,hde];simp[qt,k6];done)|(rw[v8,hde,y7];simp only[qF,qt,k6];rfl));rw[q1,q2,q3,hde];exact a2w hw O hm e ps n m t hE1 hfar k6
 ·have q1:(qT s (qt e n m t)).1=0:=(by first|(rw[qT,hde];simp[qt,k7];done)|(rw[qT,hde];by_cases h0:qF s (qt e n m t)=0<;>simp[h0];simp[qt,k7];done)|(rw[v8,hde];simp[qt,k7];done)|(rw[v8,hde,y7];simp only[qF,qt,k7];rfl));have q2:(qT s (qt e n m t)).2=0:=(by first|(rw[qT,hde];simp[qt,k7];done)|(rw[qT,hde];by_cases h0:qF s (qt e n m t)=0<;>simp[h0];simp[qt,k7];done)|(rw[v8,hde];simp[qt,k7];done)|(rw[v8,hde,y7];simp only[qF,qt,k7];rfl));have q3:v8 s (qt e n m t)=y7 e.at' s.ts.length 16 (O0 t):=(by first|(rw[qT,hde];simp[qt,k7];done)|(rw[qT,hde];by_cases h0:qF s (qt e n m t)=0<;>simp[h0];simp[qt,k7];done)|(rw[v8,hde];simp[qt,k7];done)|(rw[v8,hde,y7];simp only[qF,qt,k7];rfl));rw[q1,q2,q3,hde];exact a2u hw O hm e ps n m t hE1 hfar k7
 ·have q1:(qT s (qt e n m t)).1=0:=(by first|(rw[qT,hde];simp[qt,k8];done)|(rw[qT,hde];by_cases h0:qF s (qt e n m t)=0<;>simp[h0];simp[qt,k8];done)|(rw[v8,hde];simp[qt,k8];done)|(rw[v8,hde,y7];simp only[qF,qt,k8];rfl));have q2:(qT s (qt e n m t)).2=0:=(by first|(rw[qT,hde];simp[qt,k8];done)|(rw[qT,hde];by_cases h0:qF s (qt e n m t)=0<;>simp[h0];simp[qt,k8];done)|(rw[v8,hde];simp[qt,k8];done)|(rw[v8,hde,y7];simp only[qF,qt,k8];rfl));have q3:v8 s (qt e n m t)=0:=(by first|(rw[qT,hde];simp[qt,k8];done)|(rw[qT,hde];by_cases h0:qF s (qt e n m t)=0<;>simp[h0];simp[qt,k8];done)|(rw[v8,hde];simp[qt,k8];done)|(rw[v8,hde,y7];simp only[qF,qt,k8];rfl));rw[q1,q2,q3,hde];exact a1J hw O hm e ps n m t hE1 hfar k8
end
section
theorem a7b{h:SH}{x:SX}{s:Sc}{e:EH}{ps:List PH}{n:Nd}{m:Ms}{t:Tp}{w:World}(hA:Zu w h x s)(hE:I9 w e ps n m t)(hfar:e.nd.n≤10000):
  Calls Tryz.prog 9 #[.agg (qa h).toArray,.agg (fE e).toArray] w fun r w'=>az4 w s (qt e n m t) r w':=by
 cases hm:C2 s
 ·exact a80 hA hm
 by_cases hb:e.kind<1∨8<e.kind
 ·exact a87 hA hm hb
 have hk:e.kind=1∨e.kind=2∨e.kind=3∨e.kind=4∨e.kind=5∨e.kind=6∨e.kind=7∨e.kind=8:=om0;have hde:P7 s (qt e n m t)=qF s (qt e n m t):=by rw[P7,hm,if_pos rfl]
 have her:P7 s (qt e n m t)≠0→(qT s (qt e n m t)).1=0∧(qT s (qt e n m t)).2=0∧v8 s (qt e n m t)=0:=fun h0=>by
  obtain⟨_,h2,h3⟩:=QG rfl h0;rw[h2,h3];exact⟨rfl,rfl,rfl⟩
 have fin:∀r w',a8d w (K7 s (qt e n m t)) (qT s (qt e n m t)).1 (qT s (qt e n m t)).2 (v8 s (qt e n m t)) (P7 s (qt e n m t)) r w'→az4 w s (qt e n m t) r w':=by
  rintro r w' ⟨h',x',e0,hw,h1,h2⟩;refine⟨h',x',e0,hw,?_⟩;by_cases hz:P7 s (qt e n m t)=0
  ·rw[a4Z,if_pos hz];exact h1 hz
  ·obtain⟨rfl,rfl⟩:=h2 hz;rw[(QG rfl hz).1];exact a1S
 rcases hk with k1|k2|k3|k4|k5|k6|k7|k8
 ·have q1:(qT s (qt e n m t)).1=(if qF s (qt e n m t)=0 then zb s.g.sl else 0):=(by first|(rw[qT,hde];simp[qt,k1];done)|(rw[qT,hde];by_cases h0:qF s (qt e n m t)=0<;>simp[h0];simp[qt,k1];done)|(rw[v8,hde];simp[qt,k1];done)|(rw[v8,hde,y7];simp only[qF,qt,k1];rfl));have q2:(qT s (qt e n m t)).2=(if qF s (qt e n m t)=0 then zQ s.g.sl else 0):=(by first|(rw[qT,hde];simp[qt,k1];done)|(rw[qT,hde];by_cases h0:qF s (qt e n m t)=0<;>simp[h0];simp[qt,k1];done)|(rw[v8,hde];simp[qt,k1];done)|(rw[v8,hde,y7];simp only[qF,qt,k1];rfl));have q3:v8 s (qt e n m t)=0:=(by first|(rw[qT,hde];simp[qt,k1];done)|(rw[qT,hde];by_cases h0:qF s (qt e n m t)=0<;>simp[h0];simp[qt,k1];done)|(rw[v8,hde];simp[qt,k1];done)|(rw[v8,hde,y7];simp only[qF,qt,k1];rfl));refine(ag4 hA hm k1 rfl (fun _ _=>kr0) (S:=K7 s (qt e n m t)) her (fun T w' p h1 x1 hT U=>?_)).mono fin;rw[q1,q2,q3,hde];exact aq3 U hm e ps n m t (hE.ex hT) hfar k1
 ·have q1:(qT s (qt e n m t)).1=0:=(by first|(rw[qT,hde];simp[qt,k2];done)|(rw[qT,hde];by_cases h0:qF s (qt e n m t)=0<;>simp[h0];simp[qt,k2];done)|(rw[v8,hde];simp[qt,k2];done)|(rw[v8,hde,y7];simp only[qF,qt,k2];rfl));have q2:(qT s (qt e n m t)).2=0:=(by first|(rw[qT,hde];simp[qt,k2];done)|(rw[qT,hde];by_cases h0:qF s (qt e n m t)=0<;>simp[h0];simp[qt,k2];done)|(rw[v8,hde];simp[qt,k2];done)|(rw[v8,hde,y7];simp only[qF,qt,k2];rfl));have q3:v8 s (qt e n m t)=0:=(by first|(rw[qT,hde];simp[qt,k2];done)|(rw[qT,hde];by_cases h0:qF s (qt e n m t)=0<;>simp[h0];simp[qt,k2];done)|(rw[v8,hde];simp[qt,k2];done)|(rw[v8,hde,y7];simp only[qF,qt,k2];rfl));refine(ag4 hA hm k2 rfl (fun _ _=>kr0) (S:=K7 s (qt e n m t)) her (fun T w' p h1 x1 hT U=>?_)).mono fin;rw[q1,q2,q3,hde];exact ax0 U hm e ps n m t (hE.ex (i9 hT U.ex)) hfar k2
 ·have q1:(qT s (qt e n m t)).1=0:=(by first|(rw[qT,hde];simp[qt,k3];done)|(rw[qT,hde];by_cases h0:qF s (qt e n m t)=0<;>simp[h0];simp[qt,k3];done)|(rw[v8,hde];simp[qt,k3];done)|(rw[v8,hde,y7];simp only[qF,qt,k3];rfl));have q2:(qT s (qt e n m t)).2=0:=(by first|(rw[qT,hde];simp[qt,k3];done)|(rw[qT,hde];by_cases h0:qF s (qt e n m t)=0<;>simp[h0];simp[qt,k3];done)|(rw[v8,hde];simp[qt,k3];done)|(rw[v8,hde,y7];simp only[qF,qt,k3];rfl));have q3:v8 s (qt e n m t)=0:=(by first|(rw[qT,hde];simp[qt,k3];done)|(rw[qT,hde];by_cases h0:qF s (qt e n m t)=0<;>simp[h0];simp[qt,k3];done)|(rw[v8,hde];simp[qt,k3];done)|(rw[v8,hde,y7];simp only[qF,qt,k3];rfl));refine(ag4 hA hm k3 rfl (fun _ _=>kr0) (S:=K7 s (qt e n m t)) her (fun T w' p h1 x1 hT U=>?_)).mono fin;rw[q1,q2,q3,hde];exact a3P U hm e n m t k3
 ·have q1:(qT s (qt e n m t)).1=0:=(by first|(rw[qT,hde];simp[qt,k4];done)|(rw[qT,hde];by_cases h0:qF s (qt e n m t)=0<;>simp[h0];simp[qt,k4];done)|(rw[v8,hde];simp[qt,k4];done)|(rw[v8,hde,y7];simp only[qF,qt,k4];rfl));have q2:(qT s (qt e n m t)).2=0:=(by first|(rw[qT,hde];simp[qt,k4];done)|(rw[qT,hde];by_cases h0:qF s (qt e n m t)=0<;>simp[h0];simp[qt,k4];done)|(rw[v8,hde];simp[qt,k4];done)|(rw[v8,hde,y7];simp only[qF,qt,k4];rfl));have q3:v8 s (qt e n m t)=0:=(by first|(rw[qT,hde];simp[qt,k4];done)|(rw[qT,hde];by_cases h0:qF s (qt e n m t)=0<;>simp[h0];simp[qt,k4];done)|(rw[v8,hde];simp[qt,k4];done)|(rw[v8,hde,y7];simp only[qF,qt,k4];rfl));refine(ag4 hA hm k4 rfl (fun _ _=>kr0) (S:=K7 s (qt e n m t)) her (fun T w' p h1 x1 hT U=>?_)).mono fin;rw[q1,q2,q3,hde];exact a0v U hm e n m t k4
 ·have q1:(qT s (qt e n m t)).1=0:=(by first|(rw[qT,hde];simp[qt,k5];done)|(rw[qT,hde];by_cases h0:qF s (qt e n m t)=0<;>simp[h0];simp[qt,k5];done)|(rw[v8,hde];simp[qt,k5];done)|(rw[v8,hde,y7];simp only[qF,qt,k5];rfl));have q2:(qT s (qt e n m t)).2=0:=(by first|(rw[qT,hde];simp[qt,k5];done)|(rw[qT,hde];by_cases h0:qF s (qt e n m t)=0<;>simp[h0];simp[qt,k5];done)|(rw[v8,hde];simp[qt,k5];done)|(rw[v8,hde,y7];simp only[qF,qt,k5];rfl));have q3:v8 s (qt e n m t)=0:=(by first|(rw[qT,hde];simp[qt,k5];done)|(rw[qT,hde];by_cases h0:qF s (qt e n m t)=0<;>simp[h0];simp[qt,k5];done)|(rw[v8,hde];simp[qt,k5];done)|(rw[v8,hde,y7];simp only[qF,qt,k5];rfl));refine(ag4 hA hm k5 rfl (fun _ _=>kr0) (S:=K7 s (qt e n m t)) her (fun T w' p h1 x1 hT U=>?_)).mono fin;rw[q1,q2,q3,hde];exact a3K U hm e n m t k5
 ·have q1:(qT s (qt e n m t)).1=0:=(by first|(rw[qT,hde];simp[qt,k6];done)|(rw[qT,hde];by_cases h0:qF s (qt e n m t)=0<;>simp[h0];simp[qt,k6];done)|(rw[v8,hde];simp[qt,k6];done)|(rw[v8,hde,y7];simp only[qF,qt,k6];rfl));have q2:(qT s (qt e n m t)).2=0:=(by first|(rw[qT,hde];simp[qt,k6];done)|(rw[qT,hde];by_cases h0:qF s (qt e n m t)=0<;>simp[h0];simp[qt,k6];done)|(rw[v8,hde];simp[qt,k6];done)|(rw[v8,hde,y7];simp only[qF,qt,k6];rfl));have q3:v8 s (qt e n m t)=y7 e.at' s.ms.length 32 (L3 m):=(by first|(rw[qT,hde];simp[qt,k6];done)|(rw[qT,hde];by_cases h0:qF s (qt e n m t)=0<;>simp[h0];simp[qt,k6];done)|(rw[v8,hde];simp[qt,k6];done)|(rw[v8,hde,y7];simp only[qF,qt,k6];rfl));refine(ag4 hA hm k6 rfl (fun _ _=>kr0) (S:=K7 s (qt e n m t)) her (fun T w' p h1 x1 hT U=>?_)).mono fin;rw[q1,q2,q3,hde];exact ay2 U hm e ps n m t (hE.ex (i9 hT U.ex)) k6
 ·have q1:(qT s (qt e n m t)).1=0:=(by first|(rw[qT,hde];simp[qt,k7];done)|(rw[qT,hde];by_cases h0:qF s (qt e n m t)=0<;>simp[h0];simp[qt,k7];done)|(rw[v8,hde];simp[qt,k7];done)|(rw[v8,hde,y7];simp only[qF,qt,k7];rfl));have q2:(qT s (qt e n m t)).2=0:=(by first|(rw[qT,hde];simp[qt,k7];done)|(rw[qT,hde];by_cases h0:qF s (qt e n m t)=0<;>simp[h0];simp[qt,k7];done)|(rw[v8,hde];simp[qt,k7];done)|(rw[v8,hde,y7];simp only[qF,qt,k7];rfl));have q3:v8 s (qt e n m t)=y7 e.at' s.ts.length 16 (O0 t):=(by first|(rw[qT,hde];simp[qt,k7];done)|(rw[qT,hde];by_cases h0:qF s (qt e n m t)=0<;>simp[h0];simp[qt,k7];done)|(rw[v8,hde];simp[qt,k7];done)|(rw[v8,hde,y7];simp only[qF,qt,k7];rfl));refine(ag4 hA hm k7 rfl (fun _ _=>kr0) (S:=K7 s (qt e n m t)) her (fun T w' p h1 x1 hT U=>?_)).mono fin;rw[q1,q2,q3,hde];exact a0I U hm e ps n m t (hE.ex (i9 hT U.ex)) k7
 ·have q1:(qT s (qt e n m t)).1=0:=(by first|(rw[qT,hde];simp[qt,k8];done)|(rw[qT,hde];by_cases h0:qF s (qt e n m t)=0<;>simp[h0];simp[qt,k8];done)|(rw[v8,hde];simp[qt,k8];done)|(rw[v8,hde,y7];simp only[qF,qt,k8];rfl));have q2:(qT s (qt e n m t)).2=0:=(by first|(rw[qT,hde];simp[qt,k8];done)|(rw[qT,hde];by_cases h0:qF s (qt e n m t)=0<;>simp[h0];simp[qt,k8];done)|(rw[v8,hde];simp[qt,k8];done)|(rw[v8,hde,y7];simp only[qF,qt,k8];rfl));have q3:v8 s (qt e n m t)=0:=(by first|(rw[qT,hde];simp[qt,k8];done)|(rw[qT,hde];by_cases h0:qF s (qt e n m t)=0<;>simp[h0];simp[qt,k8];done)|(rw[v8,hde];simp[qt,k8];done)|(rw[v8,hde,y7];simp only[qF,qt,k8];rfl));refine(ag4 hA hm k8 rfl (fun _ _=>kr0) (S:=K7 s (qt e n m t)) her (fun T w' p h1 x1 hT U=>?_)).mono fin;rw[q1,q2,q3,hde];exact a0g U hm e n m t k8
end
end Go.Proofs.YtcekcihijdipoaaGreat
