/- A pack of texts: EdRTwin, EdSp. -/
import Derived.Test.YtcekcihijdipoaaGreatPD25
import Derived.Test.YtcekcihijdipoaaGreatPD26
namespace Go.Proofs.YtcekcihijdipoaaGreat
set_option maxRecDepth 100000
set_option maxHeartbeats 16000000
set_option linter.unusedVariables false
section
open Go.RowKit Go.ChangeShapes Go.WideShapes Go.ChangeAt
set_option linter.unusedSimpArgs false
attribute [local go_sem] qn qZ A2 zg zz zA t5 qJ zf qO qD t6
theorem a0S{h:MH}{hs:List PH}{m:Ms}{w:World}(a:I6 w h hs m)(f:a3y m):Calls Tryz.prog 37 #[.agg (fMh h).toArray] w fun e w'=>∃h' ps',e=.returned (.agg (fMh h').toArray)∧(∃y,w'=plus w y)∧zZ w w' h' ps' m:=by
 obtain⟨va,vn,vc,ua,un,uc,pa,pn,pc⟩:=h;have v:=a.vl.len;have u:=a.ul.len;have p:=a.pl.len;have q:=a.pp.len;simp only at v u p;obtain⟨f1,f2,f3,f4⟩:=f;refine(a2j va ua pa vn vc un uc pn pc hs m w a (fun j hj=>?_) om0 om0 om0).mono ?_
 ·have h3:=(a.pp.one j hj).lay.len;have h4:=f4 j om0;omega
 ·rintro e w' ⟨h',ps',rfl,hw,ht,_⟩;exact⟨h',ps',rfl,hw,ht,fun k hk=>⟨(a.pp.one k om0).lo,(a.pp.one k om0).hi⟩⟩
theorem a09{h:TH}{m:Tp}{w:World}(a:ak5 w h m)(f:aa2 m):Calls Tryz.prog 38 #[.agg (fTh h).toArray] w fun e w'=>∃h',e=.returned (.agg (fTh h').toArray)∧(∃y,w'=plus w y)∧D0 w w' h' m:=by
 obtain⟨tw,th,ao,n,cap⟩:=h;have v:=a.tx.lay.len;have hnil:=a.tx.nil;simp only at v hnil;unfold aa2 at f;refine(a1a tw th ao n cap m.l w a.tx.lay om0 (fun e=>(hnil e).2)).mono ?_;rintro e w' ⟨ao',cap',rfl,hw,ho⟩;exact⟨⟨tw,th,ao',n,cap'⟩,rfl,hw,a.we,a.he,ho,fun k hk=>a.tx.ok k (by simp only;omega)⟩
theorem a8g:Kin Tryz.prog 28 56 33 224:=⟨Tryz.underlying28,U4 (z:=.agg (fN nh0).toArray) kr0 rfl,dc0⟩
theorem a7Q:Kin Tryz.prog 29 61 3 72:=⟨Tryz.underlying29,U4 (z:=.agg (fMh mh0).toArray) kr0 rfl,dc0⟩
theorem a7Z:Kin Tryz.prog 30 64 3 40:=⟨Tryz.underlying30,U4 (z:=.agg (fTh th0).toArray) kr0 rfl,dc0⟩
structure TwI (w wr:World) (b q:Nat) (PC:Array Value) (h:SH) (x:SX) (s:Sc):Prop where
 ex:∃y,wr=plus w y
 own:zi w wr h x s
 bx:wr.heap[q]?=some (.cells (qa h).toArray 34)
 bp:wr.heap[b]?=some (.cells PC 34)
 br:∃z:List Value,wr.heap[b+1]?=some (.cells z.toArray 34)∧z.length=7
theorem TwI.on{w wr w1:World}{b q:Nat}{PC:Array Value}{h:SH}{x:SX}{s:Sc}(a:TwI w wr b q PC h x s)(hw:∃y,w1=plus wr y):TwI w w1 b q PC h x s:=by
 obtain⟨z,h1,h2⟩:=a.br;exact⟨i9 a.ex hw,a.own.ex hw,i7 hw a.bx,i7 hw a.bp,z,i7 hw h1,h2⟩
theorem TwI.appN{w w9 w1:World}{b q:Nat}{PC:Array Value}{h:SH}{x:SX}{s:Sc}{ao':Option Addr}{cap':Nat}(a:TwI w w9 b q PC h x s)(hq:b+1<q)(hb:w.heap.size≤b){hn:NH}{n:Nd}(o:zV w w9 hn n)(hx:∃y,w1=plus w y)(hgr:w9.grownBy w1 (Value.ownBlock (.slice h.na h.nn h.nc)))(on:Own 56 33 fN w w1 ao' (h.nn+1) cap' (x.nh++[hn])):
  TwI w (w1.setCell ⟨q,2,none⟩ (.slice ao' (h.nn+1) cap')) b q PC ⟨h.ga,h.gn,h.gc,h.ka,h.kn,h.kc,ao',h.nn+1,cap',h.ma,h.mn,h.mc,h.ta,h.tn,h.tc,h.r0,h.r1⟩ ⟨x.gr,x.nh++[hn],x.mh,x.ph,x.th⟩ ⟨s.g,s.ns++[n],s.ms,s.ts,s.root⟩:=by
 obtain⟨z,h1,h2⟩:=a.br;have kq:=t8 hgr a.own.nl a.bx dc0;exact⟨qb hx om0,(a.own.appNode o hgr on).set_other kq dc0,y8 kq,qj (t8 hgr a.own.nl a.bp dc0) om0,z,qj (t8 hgr a.own.nl h1 dc0) om0,h2⟩
theorem TwI.appM{w w9 w1:World}{b q:Nat}{PC:Array Value}{h:SH}{x:SX}{s:Sc}{ao':Option Addr}{cap':Nat}(a:TwI w w9 b q PC h x s)(hq:b+1<q)(hb:w.heap.size≤b){hn:MH}{ps:List PH}{n:Ms}(o:zZ w w9 hn ps n)(hx:∃y,w1=plus w y)(hgr:w9.grownBy w1 (Value.ownBlock (.slice h.ma h.mn h.mc)))(on:Own 61 3 fMh w w1 ao' (h.mn+1) cap' (x.mh++[hn])):
  TwI w (w1.setCell ⟨q,3,none⟩ (.slice ao' (h.mn+1) cap')) b q PC ⟨h.ga,h.gn,h.gc,h.ka,h.kn,h.kc,h.na,h.nn,h.nc,ao',h.mn+1,cap',h.ta,h.tn,h.tc,h.r0,h.r1⟩ ⟨x.gr,x.nh,x.mh++[hn],x.ph++[ps],x.th⟩ ⟨s.g,s.ns,s.ms++[n],s.ts,s.root⟩:=by
 obtain⟨z,h1,h2⟩:=a.br;have kq:=t8 hgr a.own.ml a.bx dc0;exact⟨qb hx om0,(a.own.appMesh o hgr on).set_other kq dc0,y8 kq,qj (t8 hgr a.own.ml a.bp dc0) om0,z,qj (t8 hgr a.own.ml h1 dc0) om0,h2⟩
theorem TwI.appT{w w9 w1:World}{b q:Nat}{PC:Array Value}{h:SH}{x:SX}{s:Sc}{ao':Option Addr}{cap':Nat}(a:TwI w w9 b q PC h x s)(hq:b+1<q)(hb:w.heap.size≤b){hn:TH}{n:Tp}(o:D0 w w9 hn n)(hx:∃y,w1=plus w y)(hgr:w9.grownBy w1 (Value.ownBlock (.slice h.ta h.tn h.tc)))(on:Own 64 3 fTh w w1 ao' (h.tn+1) cap' (x.th++[hn])):
  TwI w (w1.setCell ⟨q,4,none⟩ (.slice ao' (h.tn+1) cap')) b q PC ⟨h.ga,h.gn,h.gc,h.ka,h.kn,h.kc,h.na,h.nn,h.nc,h.ma,h.mn,h.mc,ao',h.tn+1,cap',h.r0,h.r1⟩ ⟨x.gr,x.nh,x.mh,x.ph,x.th++[hn]⟩ ⟨s.g,s.ns,s.ms,s.ts++[n],s.root⟩:=by
 obtain⟨z,h1,h2⟩:=a.br;have kq:=t8 hgr a.own.tl a.bx dc0;exact⟨qb hx om0,(a.own.appTex o hgr on).set_other kq dc0,y8 kq,qj (t8 hgr a.own.tl a.bp dc0) om0,z,qj (t8 hgr a.own.tl h1 dc0) om0,h2⟩
theorem F7{α:Type}{f:α→List Value}{w:World}{g:Nat}{e:TypeId}{x:α}(h:w.heap[g]?=some (.cells (f x).toArray e)):Lay f w (some ⟨g,0,none⟩) 1 [x]:=by
 refine⟨rfl,.inr ⟨g,0,rfl,qi h,fun j u hu=>?_⟩⟩;rw[Nat.zero_add];exact k9 h (by simpa using hu)
def r1S (i:Nat):List Nat:=match i with|0=>[7]|1=>[8]|2=>[9]|3=>[10]|4=>[11]|5=>[12,9]|6=>[3]|_=>[]
def r1Φ (W:World) (b:Nat) (ga ka:Option Addr) (gn gc kn kc:Nat) (r0 r1:Int) (sg:Gr) (i:Nat) (t:Nat→Value) (w':World):Prop:=match i with
 |0=>t 7=.pointer (some ⟨b,0,none⟩)
 |1=>t 8=.agg #[.slice ga gn gc,.slice ka kn kc]
 |2=>a1b W w' sg gn kn (t 9)
 |3=>t 10=.pointer (some ⟨b,5,none⟩)
 |4=>t 11=.agg #[.int .i64 r0,.int .i64 r1]
 |5=>∃a1 a2,t 12=.agg #[a1,a2,.slice none 0 0,.slice none 0 0,.slice none 0 0,.int .i64 r0,.int .i64 r1]∧t 9=.agg #[a1,a2]
 |6=>∃q,t 3=.pointer (some ⟨q,0,none⟩)∧W.heap.size≤q∧∃z:List Value,w'.heap[q]?=some (.cells z.toArray 34)∧z.length=7
 |_=>True
theorem a6w(W:World)(b:Nat)(ga ka:Option Addr)(gn gc kn kc:Nat)(r0 r1:Int)(sg:Gr):∀i t t' w' x,r1Φ W b ga ka gn gc kn kc r0 r1 sg i t w'→(∀s∈r1S i,t' s=t s)→r1Φ W b ga ka gn gc kn kc r0 r1 sg i t' (plus w' x):=by
 intro i t t' w' x h hs'
 match i with
 |0=>exact(hs' 7 dc0).trans h
 |1=>exact(hs' 8 dc0).trans h
 |2=>have:=h.ex ⟨x,rfl⟩;rw[←hs' 9 dc0]at this;exact this
 |3=>exact(hs' 10 dc0).trans h
 |4=>exact(hs' 11 dc0).trans h
 |5=>obtain⟨a1,a2,e0,e1⟩:=h;exact⟨a1,a2,(hs' 12 dc0).trans e0,(hs' 9 dc0).trans e1⟩
 |6=>obtain⟨q,e,hq,z,h1,h2⟩:=h;exact⟨q,(hs' 3 dc0).trans e,hq,z,i7 ⟨x,rfl⟩ h1,h2⟩
 |i+7=>trivial
def lNS (i:Nat):List Nat:=match i with|0=>[20]|1=>[21]|2=>[22]|3=>[23]|4=>[24]|5=>[25]|6=>[26]|7=>[27]|8=>[28]|_=>[]
def lNΦ (w:World) (b q k g1 o1 n cap:Nat) (ao:Option Addr) (m ac:Nat) (H:NH) (X:Nd) (i:Nat) (t:Nat→Value) (w':World):Prop:=match i with
 |0=>t 20=.pointer (some ⟨q,2,none⟩)
 |1=>t 21=.slice ao m ac
 |2=>t 22=.pointer (some ⟨b,2,none⟩)
 |3=>t 23=.slice (some ⟨g1,o1,none⟩) n cap
 |4=>t 24=.int .i64 k
 |5=>t 25=.pointer (some ⟨g1,o1+k*33,none⟩)
 |6=>t 26=.agg (fN H).toArray
 |7=>∃(hn:NH),t 27=.agg (fN hn).toArray∧zV w w' hn X
 |8=>∃(hn:NH) (g2:Nat),t 28=.slice (some ⟨g2,0,none⟩) 1 1∧zV w w' hn X∧Lay fN w' (some ⟨g2,0,none⟩) 1 [hn]
 |_=>True
theorem a5K(w:World)(b q k g1 o1 n cap:Nat)(ao:Option Addr)(m ac:Nat)(H:NH)(X:Nd):∀i t t' w' x,lNΦ w b q k g1 o1 n cap ao m ac H X i t w'→(∀s∈lNS i,t' s=t s)→lNΦ w b q k g1 o1 n cap ao m ac H X i t' (plus w' x):=by
 intro i t t' w' x h hs'
 match i with
 |0=>exact(hs' 20 dc0).trans h
 |1=>exact(hs' 21 dc0).trans h
 |2=>exact(hs' 22 dc0).trans h
 |3=>exact(hs' 23 dc0).trans h
 |4=>exact(hs' 24 dc0).trans h
 |5=>exact(hs' 25 dc0).trans h
 |6=>exact(hs' 26 dc0).trans h
 |7=>obtain⟨hn,e,o⟩:=h;exact⟨hn,(hs' 27 dc0).trans e,o.ex ⟨x,rfl⟩⟩
 |8=>obtain⟨hn,g2,e,o,l⟩:=h;exact⟨hn,g2,(hs' 28 dc0).trans e,o.ex ⟨x,rfl⟩,l.ex ⟨x,rfl⟩⟩
 |i+9=>trivial
def lMS (i:Nat):List Nat:=match i with|0=>[38]|1=>[39]|2=>[40]|3=>[41]|4=>[42]|5=>[43]|6=>[44]|7=>[45]|8=>[46]|_=>[]
def lMΦ (w:World) (b q k g1 o1 n cap:Nat) (ao:Option Addr) (m ac:Nat) (H:MH) (X:Ms) (i:Nat) (t:Nat→Value) (w':World):Prop:=match i with
 |0=>t 38=.pointer (some ⟨q,3,none⟩)
 |1=>t 39=.slice ao m ac
 |2=>t 40=.pointer (some ⟨b,3,none⟩)
 |3=>t 41=.slice (some ⟨g1,o1,none⟩) n cap
 |4=>t 42=.int .i64 k
 |5=>t 43=.pointer (some ⟨g1,o1+k*3,none⟩)
 |6=>t 44=.agg (fMh H).toArray
 |7=>∃(hn:MH) (ps:List PH),t 45=.agg (fMh hn).toArray∧zZ w w' hn ps X
 |8=>∃(hn:MH) (ps:List PH) (g2:Nat),t 46=.slice (some ⟨g2,0,none⟩) 1 1∧zZ w w' hn ps X∧Lay fMh w' (some ⟨g2,0,none⟩) 1 [hn]
 |_=>True
theorem a5T(w:World)(b q k g1 o1 n cap:Nat)(ao:Option Addr)(m ac:Nat)(H:MH)(X:Ms):∀i t t' w' x,lMΦ w b q k g1 o1 n cap ao m ac H X i t w'→(∀s∈lMS i,t' s=t s)→lMΦ w b q k g1 o1 n cap ao m ac H X i t' (plus w' x):=by
 intro i t t' w' x h hs'
 match i with
 |0=>exact(hs' 38 dc0).trans h
 |1=>exact(hs' 39 dc0).trans h
 |2=>exact(hs' 40 dc0).trans h
 |3=>exact(hs' 41 dc0).trans h
 |4=>exact(hs' 42 dc0).trans h
 |5=>exact(hs' 43 dc0).trans h
 |6=>exact(hs' 44 dc0).trans h
 |7=>obtain⟨hn,ps,e,o⟩:=h;exact⟨hn,ps,(hs' 45 dc0).trans e,o.ex ⟨x,rfl⟩⟩
 |8=>obtain⟨hn,ps,g2,e,o,l⟩:=h;exact⟨hn,ps,g2,(hs' 46 dc0).trans e,o.ex ⟨x,rfl⟩,l.ex ⟨x,rfl⟩⟩
 |i+9=>trivial
def lTS (i:Nat):List Nat:=match i with|0=>[56]|1=>[57]|2=>[58]|3=>[59]|4=>[60]|5=>[61]|6=>[62]|7=>[63]|8=>[64]|_=>[]
def lTΦ (w:World) (b q k g1 o1 n cap:Nat) (ao:Option Addr) (m ac:Nat) (H:TH) (X:Tp) (i:Nat) (t:Nat→Value) (w':World):Prop:=match i with
 |0=>t 56=.pointer (some ⟨q,4,none⟩)
 |1=>t 57=.slice ao m ac
 |2=>t 58=.pointer (some ⟨b,4,none⟩)
 |3=>t 59=.slice (some ⟨g1,o1,none⟩) n cap
 |4=>t 60=.int .i64 k
 |5=>t 61=.pointer (some ⟨g1,o1+k*3,none⟩)
 |6=>t 62=.agg (fTh H).toArray
 |7=>∃(hn:TH),t 63=.agg (fTh hn).toArray∧D0 w w' hn X
 |8=>∃(hn:TH) (g2:Nat),t 64=.slice (some ⟨g2,0,none⟩) 1 1∧D0 w w' hn X∧Lay fTh w' (some ⟨g2,0,none⟩) 1 [hn]
 |_=>True
theorem a6C(w:World)(b q k g1 o1 n cap:Nat)(ao:Option Addr)(m ac:Nat)(H:TH)(X:Tp):∀i t t' w' x,lTΦ w b q k g1 o1 n cap ao m ac H X i t w'→(∀s∈lTS i,t' s=t s)→lTΦ w b q k g1 o1 n cap ao m ac H X i t' (plus w' x):=by
 intro i t t' w' x h hs'
 match i with
 |0=>exact(hs' 56 dc0).trans h
 |1=>exact(hs' 57 dc0).trans h
 |2=>exact(hs' 58 dc0).trans h
 |3=>exact(hs' 59 dc0).trans h
 |4=>exact(hs' 60 dc0).trans h
 |5=>exact(hs' 61 dc0).trans h
 |6=>exact(hs' 62 dc0).trans h
 |7=>obtain⟨hn,e,o⟩:=h;exact⟨hn,(hs' 63 dc0).trans e,o.ex ⟨x,rfl⟩⟩
 |8=>obtain⟨hn,g2,e,o,l⟩:=h;exact⟨hn,g2,(hs' 64 dc0).trans e,o.ex ⟨x,rfl⟩,l.ex ⟨x,rfl⟩⟩
 |i+9=>trivial
theorem av2(h:SH)(xs:SX)(s:Sc)(w:World)(hA:Zu w h xs s):Calls Tryz.prog 14 #[vS h] w fun e w'=>a89 w s e w':=by
 have lnn:=hA.nn.1;have lmn:=hA.mn.1;have ltn:=hA.tn.1;have hG:=hA.g;have hR:=hA.r;have f:=hA.f;have b1:=f.nn;have b2:=f.mn;have b3:=f.tn;have hroot:=hR.root;obtain⟨sg,sn,sm,st,sr⟩:=s;obtain⟨ga,gn,gc,ka,kn,kc,na,nn,nc,ma,mn,mc,ta,tn,tc,r0,r1⟩:=h;simp only at lnn lmn ltn hG b1 b2 b3 hroot;subst hroot;have nl:=hR.nl;have ns:=hR.ns;have ml:=hR.ml;have ms:=hR.ms;have tl:=hR.tl;have ts:=hR.ts;simp only at nl ns ml ms tl ts;unfold vS;simp only;go_enter Tryz.func14,Tryz.ntmps14;go_wp2;refine qz (fun w'=>(∃y,w'=plus w y)∧w'.heap[w.heap.size]?=some (.cells #[.slice ga gn gc,.slice ka kn kc,.slice na nn nc,.slice ma mn mc,.slice ta tn tc,.int .i64 r0,.int .i64 r1] 34)∧(∃z:List Value,w'.heap[w.heap.size+1]?=some (.cells z.toArray 34)∧z.length=7)∧w'.heap.size=w.heap.size+2) ⟨sk9,qm (qc _ _),⟨_,by rw[←j8 w];exact qc _ _,rfl⟩,by rw[j8,j8]⟩ ?_;rintro W ⟨x1,k1,⟨z,k2,hz⟩,z1⟩;obtain⟨b,hb⟩:∃b,w.heap.size=b:=⟨_,rfl⟩;simp only[hb]at k1 k2 z1 ⊢;have c0:=i6 (i:=0) k1 rfl;have c1:=i6 (i:=1) k1 rfl;have c2:=i6 (i:=2) k1 rfl;have c3:=i6 (i:=3) k1 rfl;have c4:=i6 (i:=4) k1 rfl;have c5:=i6 (i:=5) k1 rfl;have c6:=i6 (i:=6) k1 rfl;have hG1:=hG.ex x1;refine M6 7 r1S (r1Φ W b ga ka gn gc kn kc r0 r1 sg) kr0 kr0 rfl (a6w W b ga ka gn gc kn kc r0 r1 sg) ?steps ?fin
 case steps=>
  refine⟨?_,?_,?_,?_,?_,?_,?_,trivial⟩<;>intro a w' hg hfree hdeep<;>obtain⟨x,rfl⟩:=hg
  ·have f1_:=hfree 1 kr0;simp only[r1Φ,got]at f1_;simp[go_sem]at f1_;unfold Oper.wp;simp[go_sem,execOp,Act.eval,↓IntWalk.iteOmega,f1_];exact⟨_,rfl,j5 _,by simp[r1Φ,upd]⟩
  ·have d0:=hdeep 0 kr0;simp only[r1Φ,got]at d0;have d_0:=qf ⟨x,rfl⟩ c0;have d_1:=qf ⟨x,rfl⟩ c1;unfold Oper.wp;simp[go_sem,execOp,Act.eval,↓IntWalk.iteOmega,d0,d_0,d_1];exact⟨_,rfl,j5 _,by simp[r1Φ,upd]⟩
  ·have d1:=hdeep 1 kr0;simp only[r1Φ,got]at d1;unfold Oper.wp;simp[go_sem,execOp,Act.eval,↓IntWalk.iteOmega,d1];refine(QJ _ _ _ _ _ _ xs.gr sg _ (hG1.ex sk9)).mono ?_;rintro e w2 ⟨a1,c1',k1',kc1,hs1,rfl,hw2,o1⟩;exact⟨_,rfl,hw2,by simp only[r1Φ,upd];simp;exact⟨a1,c1',k1',kc1,hs1,rfl,o1.base (by rw[qn];omega)⟩⟩
  ·have f1_:=hfree 1 kr0;simp only[r1Φ,got]at f1_;simp[go_sem]at f1_;unfold Oper.wp;simp[go_sem,execOp,Act.eval,↓IntWalk.iteOmega,f1_];exact⟨_,rfl,j5 _,by simp[r1Φ,upd]⟩
  ·have d3:=hdeep 3 kr0;simp only[r1Φ,got]at d3;have d_5:=qf ⟨x,rfl⟩ c5;have d_6:=qf ⟨x,rfl⟩ c6;unfold Oper.wp;simp[go_sem,execOp,Act.eval,↓IntWalk.iteOmega,d3,d_5,d_6];exact⟨_,rfl,j5 _,by simp[r1Φ,upd]⟩
  ·obtain⟨a1,c1',k1',kc1,hs1,e9,_⟩:a1b W _ sg gn kn (got a 9):=hdeep 2 kr0;have e11:got a 11=.agg #[.int .i64 r0,.int .i64 r1]:=hdeep 4 kr0;have g9:=e9;have g11:=e11;simp only[got]at g9 g11;simp at g9 g11;unfold Oper.wp;simp[go_sem,execOp,Act.eval,↓IntWalk.iteOmega,g9,g11];exact⟨_,rfl,j5 _,.slice a1 gn c1',.slice k1' kn kc1,by simp[upd],by simp[upd];exact e9⟩
  ·unfold Oper.wp;simp[go_sem,execOp,Act.eval,↓IntWalk.iteOmega];exact⟨_,rfl,sk9,(plus W x).heap.size,by simp[upd,qn],by rw[qn];omega,_,qc _ _,rfl⟩
 case fin=>
  rintro t w1 hg hΦ o ho;obtain⟨q,e3,hq,zq,kq,hzq⟩:=hΦ 6 dc0;obtain⟨a1,a2,e12,e9⟩:=hΦ 5 dc0;obtain⟨ga',gc',ka',kc',hs1,e9',og⟩:=hΦ 2 dc0;rw[e9']at e9;cases e9;clear hΦ;have kb:=i7 hg k1;have kr:=i7 hg k2;simp only[List.getElem?_cons_succ,List.getElem?_cons_zero,Option.some.injEq]at ho;subst ho;simp only[zh,List.take_succ_cons,List.take_zero,e3];simp only[Act.put];simp only[List.setIfInBounds_toArray,List.set_cons_succ,List.set_cons_zero];refine wp_store_row 34 _ _ rfl q (qa ⟨ga',gn,gc',ka',kn,kc',none,0,0,none,0,0,none,0,0,r0,r1⟩).toArray rfl e12 _ _ kq kr0 (by simpa [qa]using hzq) (Array.all_eq_true_iff_forall_mem.2 fun v hv=>qX _ v (by simpa using hv)) ?_;have hI:TwI w (w1.setRow q (qa ⟨ga',gn,gc',ka',kn,kc',none,0,0,none,0,0,none,0,0,r0,r1⟩).toArray) b q #[.slice ga gn gc,.slice ka kn kc,.slice na nn nc,.slice ma mn mc,.slice ta tn tc,.int .i64 r0,.int .i64 r1] ⟨ga',gn,gc',ka',kn,kc',none,0,0,none,0,0,none,0,0,r0,r1⟩ ⟨hs1,[],[],[],[]⟩ ⟨sg,[],[],[],(r0,r1)⟩:=
   ⟨ql (i9 x1 hg) om0,⟨(og.row_other kq dc0 dc0 dc0).base om0,zd,rfl,fun k hk=>absurd hk (Nat.not_lt_zero _),zd,rfl,fun k hk=>absurd hk (Nat.not_lt_zero _),zd,rfl,fun k hk=>absurd hk (Nat.not_lt_zero _),rfl,rfl⟩,p9 kq,l9 kb om0,z,l9 kr om0,hz⟩
  have hqb:b+1<q:=om0;clear e3 e12 e9' og kq kb kr hg k1 k2 hG1 c0 c1 c2 c3 c4 c5 c6;generalize w1.setRow q (qa ⟨ga',gn,gc',ka',kn,kc',none,0,0,none,0,0,none,0,0,r0,r1⟩).toArray=w2 at*;go_wp2;go_loopw [4] (fun i wr=>∃(k:Nat) (h:SH) (x:SX),k≤nn∧i=.int .i64 k∧TwI w wr b q #[.slice ga gn gc,.slice ka kn kc,.slice na nn nc,.slice ma mn mc,.slice ta tn tc,.int .i64 r0,.int .i64 r1] h x ⟨sg,sn.take k,[],[],(r0,r1)⟩) (fun i _=>nn - (intOf i).toNat)
  case atStart=>exact⟨0,_,_,Nat.zero_le _,rfl,hI.on sk9⟩
  case round=>
   clear hI;obtain⟨k,h,x',hk,rfl,hI⟩:=hrel;by_cases hkl:k<nn
   ·have ik:(k:Int)<(nn:Int):=om0;have cb:=i6 (i:=2) hI.bp rfl;obtain⟨g1,o1,rfl,hg1,hc1⟩:=nl.some om0;have hp:=F5 (d:=nh0) nl.len ag0 hc1 hkl
    replace hp:=qw.mk hp
    clear hc1;have hat:=(ns.one k (by have:=nl.len;omega)).ex hI.ex;have cq:=k9 (i:=2) hI.bx rfl;have cb:=i6 (i:=2) hI.bp rfl;have zq:=j9 (i:=2) hI.bx;have hfew:(nth nh0 xs.nh k).n≤10000:=by have h0:=f.ns k (by simp only;omega);have h2:=hat.lay.len;unfold al2 at h0;simp only at h0;omega
    go_wp2;refine zJ 9 lNS (lNΦ w b q k g1 o1 nn nc h.na h.nn h.nc (nth nh0 xs.nh k) (nth nd0 sn k)) kr0 kr0 dc0 (a5K w b q k g1 o1 nn nc h.na h.nn h.nc (nth nh0 xs.nh k) (nth nd0 sn k)) ?steps ?fin
    case steps=>
     refine⟨?_,?_,?_,?_,?_,?_,?_,?_,?_,trivial⟩<;>intro a w' hg hfree hdeep<;>obtain⟨x,rfl⟩:=hg
     ·have f3_:=hfree 3 kr0;simp only[lNΦ,got]at f3_;simp[go_sem]at f3_;unfold Oper.wp;simp[go_sem,execOp,Act.eval,↓IntWalk.iteOmega,f3_];exact⟨_,rfl,j5 _,by simp[lNΦ,upd]⟩
     ·have d0:=hdeep 0 kr0;simp only[lNΦ,got]at d0;have d_cq:=qf ⟨x,rfl⟩ cq;unfold Oper.wp;simp[go_sem,execOp,Act.eval,↓IntWalk.iteOmega,d0,d_cq];exact⟨_,rfl,j5 _,by simp[lNΦ,upd]⟩
     ·have f1_:=hfree 1 kr0;simp only[lNΦ,got]at f1_;simp[go_sem]at f1_;unfold Oper.wp;simp[go_sem,execOp,Act.eval,↓IntWalk.iteOmega,f1_];exact⟨_,rfl,j5 _,by simp[lNΦ,upd]⟩
     ·have d2:=hdeep 2 kr0;simp only[lNΦ,got]at d2;have d_cb:=qf ⟨x,rfl⟩ cb;unfold Oper.wp;simp[go_sem,execOp,Act.eval,↓IntWalk.iteOmega,d2,d_cb];exact⟨_,rfl,j5 _,by simp[lNΦ,upd]⟩
     ·have f4_:=hfree 4 kr0;simp only[lNΦ,got]at f4_;simp[go_sem]at f4_;unfold Oper.wp;simp[go_sem,execOp,Act.eval,↓IntWalk.iteOmega,f4_];exact⟨_,rfl,j5 _,by simp[lNΦ,upd]⟩
     ·have d3:=hdeep 3 kr0;have d4:=hdeep 4 kr0;simp only[lNΦ,got]at d3 d4;unfold Oper.wp;simp[go_sem,execOp,Act.eval,↓IntWalk.iteOmega,d3,d4,ik];exact⟨_,rfl,j5 _,by simp[lNΦ,upd]⟩
     ·have d5:=hdeep 5 kr0;simp only[lNΦ,got]at d5;simp at d5;refine R6 56 _ rfl g1 (o1+k*33) (by simp[Act.eval,d5]) (fN (nth nh0 xs.nh k)) _ (fun j v hj=>qf (i9 hI.ex ⟨x,rfl⟩) (hp.it j v hj)) Tryz.underlying56 rfl kr0 ?_;exact⟨_,rfl,j5 _,by simp[lNΦ,upd]⟩
     ·have d6:=hdeep 6 kr0;simp only[lNΦ,got]at d6;unfold Oper.wp;simp[go_sem,execOp,Act.eval,↓IntWalk.iteOmega,d6];refine(af0 _ (nth nd0 sn k) _ (hat.ex sk9) hfew).mono ?_;rintro e w2 ⟨h3,rfl,hw2,o3⟩;exact⟨_,rfl,hw2,h3,by simp[upd];rfl,o3.base (by have:=qu hI.ex;rw[qn];omega)⟩
     ·obtain⟨hn,e7,o7⟩:=hdeep 7 kr0;have g7:=e7;simp only[got]at g7;simp at g7;unfold Oper.wp;simp[go_sem,execOp,Act.eval,↓IntWalk.iteOmega,g7,ai4,show(fN hn).length=33 from rfl];exact⟨_,rfl,sk9,hn,(plus wr x).heap.size,by simp[upd,qn],o7.ex sk9,F7 (qc _ _)⟩
    case fin=>
     rintro t w9 hg hΦ;have e0:=hΦ 0 dc0;have e1:=hΦ 1 dc0;have e2:=hΦ 2 dc0;have e3:=hΦ 3 dc0;have e4:=hΦ 4 dc0;have e5:=hΦ 5 dc0;have e6:=hΦ 6 dc0;obtain⟨hn7,e7,o7⟩:=hΦ 7 dc0;obtain⟨hn,g2,e8,o8,l8⟩:=hΦ 8 dc0;simp only[lNΦ]at e0 e1 e2 e3 e4 e5 e6;simp only[zh,List.take_succ_cons,List.take_zero,List.drop_succ_cons,List.drop_zero,e0,e1,e2,e3,e4,e5,e6,e7,e8];simp only[Act.put];simp only[List.setIfInBounds_toArray,List.set_cons_succ,List.set_cons_zero];clear hΦ e0 e1 e2 e3 e4 e5 e6 e7 e8 o7 hat cq cb zq;have hJ:=hI.on hg;have lenk:h.nn=k:=by have h1:=hJ.own.nl.1;have h2:=hJ.own.nlen;simp only[List.length_take]at h2;omega
     go_wp2_with (at_builtin;refine qW (T:=w) (l:=x'.nh) rfl _ _ rfl a8g ag0 aa4 rfl hJ.ex hJ.own.nl rfl l8 om0 dc0 ?_;intro ao' cap' w3 o3 hx3 hgr;have kq:=t8 hgr hJ.own.nl hJ.bx dc0;have cq3:=k9 (i:=2) kq rfl;have zq3:w3.frozen? ⟨q,2,none⟩=false:=j9 kq);have hT:=hJ.appN hqb om0 o8 hx3 hgr o3;rw[lenk]at hT;clear kq cq3 zq3 hgr o3 hJ hI l8 o8;go_roundw
     case rel=>exact⟨k+1,_,_,om0,by go_num,by rw[P1 (d:=nd0) om0];exact hT.on sk9⟩
     case measure=>simp[intOf];omega
   ·have ik:¬(k:Int)<(nn:Int):=om0;have cb:=i6 (i:=2) hI.bp rfl;obtain rfl:nn=k:=om0;rw[List.take_of_length_le om0]at hI;go_wp2;go_loopw [5] (fun i wr=>∃(k:Nat) (h:SH) (x:SX),k≤mn∧i=.int .i64 k∧TwI w wr b q #[.slice ga gn gc,.slice ka kn kc,.slice na nn nc,.slice ma mn mc,.slice ta tn tc,.int .i64 r0,.int .i64 r1] h x ⟨sg,sn,sm.take k,[],(r0,r1)⟩) (fun i _=>mn - (intOf i).toNat)
    case atStart=>exact⟨0,_,_,Nat.zero_le _,rfl,hI.on sk9⟩
    case round=>
     clear hI;obtain⟨k,h,x',hk,rfl,hI⟩:=hrel;by_cases hkl:k<mn
     ·have ik:(k:Int)<(mn:Int):=om0;have cb:=i6 (i:=3) hI.bp rfl;obtain⟨g1,o1,rfl,hg1,hc1⟩:=ml.some om0;have hp:=F5 (d:=mh0) ml.len Z1 hc1 hkl
      replace hp:=qw.mk hp
      clear hc1;have hat:=(ms.one k (by have:=ml.len;omega)).ex hI.ex;have cq:=k9 (i:=3) hI.bx rfl;have cb:=i6 (i:=3) hI.bp rfl;have zq:=j9 (i:=3) hI.bx;have hfew:=f.ms k (by simp only;omega);go_wp2;refine zJ 9 lMS (lMΦ w b q k g1 o1 mn mc h.ma h.mn h.mc (nth mh0 xs.mh k) (nth ms0 sm k)) kr0 kr0 dc0 (a5T w b q k g1 o1 mn mc h.ma h.mn h.mc (nth mh0 xs.mh k) (nth ms0 sm k)) ?steps ?fin
      case steps=>
       refine⟨?_,?_,?_,?_,?_,?_,?_,?_,?_,trivial⟩<;>intro a w' hg hfree hdeep<;>obtain⟨x,rfl⟩:=hg
       ·have f3_:=hfree 3 kr0;simp only[lMΦ,got]at f3_;simp[go_sem]at f3_;unfold Oper.wp;simp[go_sem,execOp,Act.eval,↓IntWalk.iteOmega,f3_];exact⟨_,rfl,j5 _,by simp[lMΦ,upd]⟩
       ·have d0:=hdeep 0 kr0;simp only[lMΦ,got]at d0;have d_cq:=qf ⟨x,rfl⟩ cq;unfold Oper.wp;simp[go_sem,execOp,Act.eval,↓IntWalk.iteOmega,d0,d_cq];exact⟨_,rfl,j5 _,by simp[lMΦ,upd]⟩
       ·have f1_:=hfree 1 kr0;simp only[lMΦ,got]at f1_;simp[go_sem]at f1_;unfold Oper.wp;simp[go_sem,execOp,Act.eval,↓IntWalk.iteOmega,f1_];exact⟨_,rfl,j5 _,by simp[lMΦ,upd]⟩
       ·have d2:=hdeep 2 kr0;simp only[lMΦ,got]at d2;have d_cb:=qf ⟨x,rfl⟩ cb;unfold Oper.wp;simp[go_sem,execOp,Act.eval,↓IntWalk.iteOmega,d2,d_cb];exact⟨_,rfl,j5 _,by simp[lMΦ,upd]⟩
       ·have f5_:=hfree 5 kr0;simp only[lMΦ,got]at f5_;simp[go_sem]at f5_;unfold Oper.wp;simp[go_sem,execOp,Act.eval,↓IntWalk.iteOmega,f5_];exact⟨_,rfl,j5 _,by simp[lMΦ,upd]⟩
       ·have d3:=hdeep 3 kr0;have d4:=hdeep 4 kr0;simp only[lMΦ,got]at d3 d4;unfold Oper.wp;simp[go_sem,execOp,Act.eval,↓IntWalk.iteOmega,d3,d4,ik];exact⟨_,rfl,j5 _,by simp[lMΦ,upd]⟩
       ·have d5:=hdeep 5 kr0;simp only[lMΦ,got]at d5;simp at d5;refine R6 61 _ rfl g1 (o1+k*3) (by simp[Act.eval,d5]) (fMh (nth mh0 xs.mh k)) _ (fun j v hj=>qf (i9 hI.ex ⟨x,rfl⟩) (hp.it j v hj)) Tryz.underlying61 rfl kr0 ?_;exact⟨_,rfl,j5 _,by simp[lMΦ,upd]⟩
       ·have d6:=hdeep 6 kr0;simp only[lMΦ,got]at d6;unfold Oper.wp;simp[go_sem,execOp,Act.eval,↓IntWalk.iteOmega,d6];refine(a0S (hat.ex sk9) hfew).mono ?_;rintro e w2 ⟨h3,p3,rfl,hw2,o3⟩;exact⟨_,rfl,hw2,h3,p3,by simp[upd],o3.base (by have:=qu hI.ex;rw[qn];omega)⟩
       ·obtain⟨hn,ps,e7,o7⟩:=hdeep 7 kr0;have g7:=e7;simp only[got]at g7;simp at g7;unfold Oper.wp;simp[go_sem,execOp,Act.eval,↓IntWalk.iteOmega,g7,ai4,show(fMh hn).length=3 from rfl];exact⟨_,rfl,sk9,hn,ps,(plus wr x).heap.size,by simp[upd,qn],o7.ex sk9,F7 (qc _ _)⟩
      case fin=>
       rintro t w9 hg hΦ;have e0:=hΦ 0 dc0;have e1:=hΦ 1 dc0;have e2:=hΦ 2 dc0;have e3:=hΦ 3 dc0;have e4:=hΦ 4 dc0;have e5:=hΦ 5 dc0;have e6:=hΦ 6 dc0;obtain⟨hn7,ps7,e7,o7⟩:=hΦ 7 dc0;obtain⟨hn,ps,g2,e8,o8,l8⟩:=hΦ 8 dc0;simp only[lMΦ]at e0 e1 e2 e3 e4 e5 e6;simp only[zh,List.take_succ_cons,List.take_zero,List.drop_succ_cons,List.drop_zero,e0,e1,e2,e3,e4,e5,e6,e7,e8];simp only[Act.put];simp only[List.setIfInBounds_toArray,List.set_cons_succ,List.set_cons_zero];clear hΦ e0 e1 e2 e3 e4 e5 e6 e7 e8 o7 hat cq cb zq;have hJ:=hI.on hg;have lenk:h.mn=k:=by have h1:=hJ.own.ml.1;have h2:=hJ.own.mlen;simp only[List.length_take]at h2;omega
       go_wp2_with (at_builtin;refine qW (T:=w) (l:=x'.mh) rfl _ _ rfl a7Q Z1 a1G rfl hJ.ex hJ.own.ml rfl l8 om0 dc0 ?_;intro ao' cap' w3 o3 hx3 hgr;have kq:=t8 hgr hJ.own.ml hJ.bx dc0;have cq3:=k9 (i:=3) kq rfl;have zq3:w3.frozen? ⟨q,3,none⟩=false:=j9 kq);have hT:=hJ.appM hqb om0 o8 hx3 hgr o3;rw[lenk]at hT;clear kq cq3 zq3 hgr o3 hJ hI l8 o8;go_roundw
       case rel=>exact⟨k+1,_,_,om0,by go_num,by rw[P1 (d:=ms0) om0];exact hT.on sk9⟩
       case measure=>simp[intOf];omega
     ·have ik:¬(k:Int)<(mn:Int):=om0;have cb:=i6 (i:=3) hI.bp rfl;obtain rfl:mn=k:=om0;rw[List.take_of_length_le om0]at hI;go_wp2;go_loopw [6] (fun i wr=>∃(k:Nat) (h:SH) (x:SX),k≤tn∧i=.int .i64 k∧TwI w wr b q #[.slice ga gn gc,.slice ka kn kc,.slice na nn nc,.slice ma mn mc,.slice ta tn tc,.int .i64 r0,.int .i64 r1] h x ⟨sg,sn,sm,st.take k,(r0,r1)⟩) (fun i _=>tn - (intOf i).toNat)
      case atStart=>exact⟨0,_,_,Nat.zero_le _,rfl,hI.on sk9⟩
      case round=>
       clear hI;obtain⟨k,h,x',hk,rfl,hI⟩:=hrel;by_cases hkl:k<tn
       ·have ik:(k:Int)<(tn:Int):=om0;have cb:=i6 (i:=4) hI.bp rfl;obtain⟨g1,o1,rfl,hg1,hc1⟩:=tl.some om0;have hp:=F5 (d:=th0) tl.len Z2 hc1 hkl
        replace hp:=qw.mk hp
        clear hc1;have hat:=(ts.one k (by have:=tl.len;omega)).ex hI.ex;have cq:=k9 (i:=4) hI.bx rfl;have cb:=i6 (i:=4) hI.bp rfl;have zq:=j9 (i:=4) hI.bx;have hfew:=f.ts k (by simp only;omega);go_wp2;refine zJ 9 lTS (lTΦ w b q k g1 o1 tn tc h.ta h.tn h.tc (nth th0 xs.th k) (nth tp0 st k)) kr0 kr0 dc0 (a6C w b q k g1 o1 tn tc h.ta h.tn h.tc (nth th0 xs.th k) (nth tp0 st k)) ?steps ?fin
        case steps=>
         refine⟨?_,?_,?_,?_,?_,?_,?_,?_,?_,trivial⟩<;>intro a w' hg hfree hdeep<;>obtain⟨x,rfl⟩:=hg
         ·have f3_:=hfree 3 kr0;simp only[lTΦ,got]at f3_;simp[go_sem]at f3_;unfold Oper.wp;simp[go_sem,execOp,Act.eval,↓IntWalk.iteOmega,f3_];exact⟨_,rfl,j5 _,by simp[lTΦ,upd]⟩
         ·have d0:=hdeep 0 kr0;simp only[lTΦ,got]at d0;have d_cq:=qf ⟨x,rfl⟩ cq;unfold Oper.wp;simp[go_sem,execOp,Act.eval,↓IntWalk.iteOmega,d0,d_cq];exact⟨_,rfl,j5 _,by simp[lTΦ,upd]⟩
         ·have f1_:=hfree 1 kr0;simp only[lTΦ,got]at f1_;simp[go_sem]at f1_;unfold Oper.wp;simp[go_sem,execOp,Act.eval,↓IntWalk.iteOmega,f1_];exact⟨_,rfl,j5 _,by simp[lTΦ,upd]⟩
         ·have d2:=hdeep 2 kr0;simp only[lTΦ,got]at d2;have d_cb:=qf ⟨x,rfl⟩ cb;unfold Oper.wp;simp[go_sem,execOp,Act.eval,↓IntWalk.iteOmega,d2,d_cb];exact⟨_,rfl,j5 _,by simp[lTΦ,upd]⟩
         ·have f6_:=hfree 6 kr0;simp only[lTΦ,got]at f6_;simp[go_sem]at f6_;unfold Oper.wp;simp[go_sem,execOp,Act.eval,↓IntWalk.iteOmega,f6_];exact⟨_,rfl,j5 _,by simp[lTΦ,upd]⟩
         ·have d3:=hdeep 3 kr0;have d4:=hdeep 4 kr0;simp only[lTΦ,got]at d3 d4;unfold Oper.wp;simp[go_sem,execOp,Act.eval,↓IntWalk.iteOmega,d3,d4,ik];exact⟨_,rfl,j5 _,by simp[lTΦ,upd]⟩
         ·have d5:=hdeep 5 kr0;simp only[lTΦ,got]at d5;simp at d5;refine R6 64 _ rfl g1 (o1+k*3) (by simp[Act.eval,d5]) (fTh (nth th0 xs.th k)) _ (fun j v hj=>qf (i9 hI.ex ⟨x,rfl⟩) (hp.it j v hj)) Tryz.underlying64 rfl kr0 ?_;exact⟨_,rfl,j5 _,by simp[lTΦ,upd]⟩
         ·have d6:=hdeep 6 kr0;simp only[lTΦ,got]at d6;unfold Oper.wp;simp[go_sem,execOp,Act.eval,↓IntWalk.iteOmega,d6];refine(a09 (hat.ex sk9) hfew).mono ?_;rintro e w2 ⟨h3,rfl,hw2,o3⟩;exact⟨_,rfl,hw2,h3,by simp[upd],o3.base (by have:=qu hI.ex;rw[qn];omega)⟩
         ·obtain⟨hn,e7,o7⟩:=hdeep 7 kr0;have g7:=e7;simp only[got]at g7;simp at g7;unfold Oper.wp;simp[go_sem,execOp,Act.eval,↓IntWalk.iteOmega,g7,ai4,show(fTh hn).length=3 from rfl];exact⟨_,rfl,sk9,hn,(plus wr x).heap.size,by simp[upd,qn],o7.ex sk9,F7 (qc _ _)⟩
        case fin=>
         rintro t w9 hg hΦ;have e0:=hΦ 0 dc0;have e1:=hΦ 1 dc0;have e2:=hΦ 2 dc0;have e3:=hΦ 3 dc0;have e4:=hΦ 4 dc0;have e5:=hΦ 5 dc0;have e6:=hΦ 6 dc0;obtain⟨hn7,e7,o7⟩:=hΦ 7 dc0;obtain⟨hn,g2,e8,o8,l8⟩:=hΦ 8 dc0;simp only[lTΦ]at e0 e1 e2 e3 e4 e5 e6;simp only[zh,List.take_succ_cons,List.take_zero,List.drop_succ_cons,List.drop_zero,e0,e1,e2,e3,e4,e5,e6,e7,e8];simp only[Act.put];simp only[List.setIfInBounds_toArray,List.set_cons_succ,List.set_cons_zero];clear hΦ e0 e1 e2 e3 e4 e5 e6 e7 e8 o7 hat cq cb zq;have hJ:=hI.on hg;have lenk:h.tn=k:=by have h1:=hJ.own.tl.1;have h2:=hJ.own.tlen;simp only[List.length_take]at h2;omega
         go_wp2_with (at_builtin;refine qW (T:=w) (l:=x'.th) rfl _ _ rfl a7Z Z2 a2l rfl hJ.ex hJ.own.tl rfl l8 om0 dc0 ?_;intro ao' cap' w3 o3 hx3 hgr;have kq:=t8 hgr hJ.own.tl hJ.bx dc0;have cq3:=k9 (i:=4) kq rfl;have zq3:w3.frozen? ⟨q,4,none⟩=false:=j9 kq);have hT:=hJ.appT hqb om0 o8 hx3 hgr o3;rw[lenk]at hT;clear kq cq3 zq3 hgr o3 hJ hI l8 o8;go_roundw
         case rel=>exact⟨k+1,_,_,om0,by go_num,by rw[P1 (d:=tp0) om0];exact hT.on sk9⟩
         case measure=>simp[intOf];omega
       ·have ik:¬(k:Int)<(tn:Int):=om0;have cb:=i6 (i:=4) hI.bp rfl;obtain rfl:tn=k:=om0;rw[List.take_of_length_le om0]at hI;obtain⟨zr,kr,hzr⟩:=hI.br;have bq:=hI.bx;go_wp2_with (first|(refine wpList_load_row rfl 34 _ rfl q rfl _ _ _ _ bq Tryz.underlying34 rfl kr0 ?_)|(refine j6 rfl 34 _ _ rfl (b+1) (qa h) rfl rfl _ _ kr kr0 (by simpa [qa]using hzr) (qX _) ?_));exact bodyPost_ret (v:=vS h) (results_cell_row Tryz.results14 _ _ (b+1) 34 _ _ _ rfl (p9 kr) Tryz.underlying34 rfl kr0) rfl ⟨h,x',rfl,ql hI.ex om0,hI.own.row_other kr dc0⟩
end
section
open Go.RowKit
def aj8:List TypeId:=[3,32,43,50]
structure SpW (T w0 wr:World):Prop where
 ex:∃y,wr=plus T y
 blk:∀(g:Nat) (cur:Array Value) (e:TypeId),w0.heap[g]?=some (.cells cur e)→∃cur':Array Value,wr.heap[g]?=some (.cells cur' e)∧cur'.size=cur.size∧(e ∉ aj8→e≠56→cur'=cur)∧(e=56→∀i,i % 33≠0→cur'[i]?=cur[i]?)
section
variable {T w0 wr:World} {g i:Nat} {cur cur0:Array Value} {e:TypeId} {u:Value}
theorem SpW.start(hx:∃y,w0=plus T y):SpW T w0 w0:=⟨hx,fun g cur e h=>⟨cur,h,rfl,fun _ _=>rfl,fun _ _ _=>rfl⟩⟩
theorem SpW.step(h:SpW T w0 wr)(hb:wr.heap[g]?=some (.cells cur e))(hT:T.heap.size≤g)(he:e∈aj8∨(e=56∧i % 33=0)):SpW T w0 (wr.setCell ⟨g,i,none⟩ u):=by
 refine⟨qb h.ex hT,fun k c0 e0 h0=>?_⟩;obtain⟨c1,h1,h2,h3,h4⟩:=h.blk k c0 e0 h0;by_cases hk:g=k
 ·subst hk;rw[hb]at h1;cases h1;refine⟨_,j7 hb,by simpa using h2,fun n1 n2=>?_,fun n1 j hj=>?_⟩
  ·rcases he with he|he
   ·exact absurd he n1
   ·exact absurd he.1 n2
  ·rw[←h4 n1 j hj];rcases he with he|he
   ·subst n1;exact absurd he dc0
   ·rw[Array.getElem?_setIfInBounds];split
    ·rename_i e2;subst e2;exact absurd he.2 hj
    ·rfl
 ·exact⟨c1,(qd hk).trans h1,h2,h3,h4⟩
theorem SpW.cell(h:SpW T w0 wr)(hb:w0.heap[g]?=some (.cells cur0 e))(hc:w0.cell? ⟨g,i,none⟩=some u)(he:(e ∉ aj8∧e≠56)∨(e=56∧i % 33≠0)):wr.cell? ⟨g,i,none⟩=some u:=by
 obtain⟨c1,h1,h2,h3,h4⟩:=h.blk g cur0 e hb;have hi:cur0[i]?=some u:=by simpa [World.cell?,hb]using hc
 refine i6 h1 ?_;rcases he with he|he
 ·rw[h3 he.1 he.2];exact hi
 ·rw[h4 he.1 i he.2];exact hi
theorem SpW.any(h:SpW T w0 wr)(hb:w0.heap[g]?=some (.cells cur0 e))(hi:i<cur0.size):(∃cur,wr.heap[g]?=some (.cells cur e))∧(∃u,wr.cell? ⟨g,i,none⟩=some u)∧wr.frozen? ⟨g,i,none⟩=false:=by
 obtain⟨c1,h1,h2,h3,h4⟩:=h.blk g cur0 e hb;exact⟨⟨c1,h1⟩,⟨c1[i]'om0,i6 h1 (by simp[show i<c1.size by omega])⟩,j9 h1⟩
end
end
end Go.Proofs.YtcekcihijdipoaaGreat
