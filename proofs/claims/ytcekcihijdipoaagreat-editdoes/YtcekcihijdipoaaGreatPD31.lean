/- A pack of texts: NdP3. -/
import Derived.Laws.Externs
import Derived.Test.YtcekcihijdipoaaGreatPD30
namespace Go.Proofs.YtcekcihijdipoaaGreat
set_option maxRecDepth 100000
set_option maxHeartbeats 16000000
open Go.RowKit Go.ChangeShapes Go.WideShapes Go.ChangeAt
set_option linter.unusedSimpArgs false
set_option linter.unusedVariables false
attribute [local go_sem] qn qZ A2 zg zz zA t5 qJ zf qO qD t6
section
theorem zS.upd{T w w':World}{ao:Option Addr}{n cap kb kn kcap:Nat}{hs:List RH}{g:Gr}{k:Nat}{gb:Option Nat}{r:RH}{l:List (Int × Int)}(h:zS T w ao n cap (some ⟨kb,0,none⟩) kn kcap hs g)(hap:a1P hs)(hk:k<kn)(hg:w.grownBy w' gb)(hgb:∀q,gb=some q→(nth dRH hs k).ao=some ⟨q,0,none⟩)(o:Own 32 2 f2 T w' r.ao r.n r.cap l):
  zS T (w'.setCell ⟨kb,k,none⟩ (.slice r.ao r.n r.cap)) ao n cap (some ⟨kb,0,none⟩) kn kcap (hs.set k r) ⟨g.sl,g.ks.set k l⟩:=by
 have hl:=h.kh.1;have hkl:=h.kl;have hty:∀q,gb=some q→∃cur,w.heap[q]?=some (.cells cur 32):=fun q hq=>by
  have hr:=h.row k om0;rw[hgb q hq]at hr;obtain⟨cur,hb,_⟩:=QX hr;exact⟨cur,hb⟩
 have kh':Own 88 1 fR T w' (some ⟨kb,0,none⟩) kn kcap hs:=by
  cases hq:gb with
  |none=>exact Qq h.kh (hq▸hg) (fun a _=>by simp)
  |some q=>
   obtain⟨cur,hb⟩:=hty q hq;exact R8 h.kh (hq▸hg) hb dc0
 have sl':Own 86 2 fS T w' ao n cap g.sl:=by
  cases hq:gb with
  |none=>exact Qq h.sl (hq▸hg) (fun a _=>by simp)
  |some q=>
   obtain⟨cur,hb⟩:=hty q hq;exact R8 h.sl (hq▸hg) hb dc0
 obtain⟨cur,hb,_⟩:=QX kh';have hs1:=kh'.set_self (u:=.slice r.ao r.n r.cap) k 0 r dRH hk a4O dc0 rfl;rw[Nat.mul_one,Nat.add_zero]at hs1;refine⟨sl'.set_other hb dc0,hs1,by show(hs.set k r).length=(g.ks.set k l).length;rw[List.length_set,List.length_set];exact h.len,fun j hj=>?_⟩;rw[List.length_set]at hj;show Own 32 2 f2 T _ _ _ _ (nth [] (g.ks.set k l) j);rw[qR om0,qR om0];by_cases e:j=k
 ·rw[if_pos e,if_pos e];exact o.set_other hb dc0
 ·rw[if_neg e,if_neg e];refine(Qq (h.row j hj) hg fun a ha=>?_).set_other hb dc0;intro e2;cases hq:gb with
  |none=>rw[hq]at e2;cases e2
  |some q=>
   rw[hq]at e2;cases e2;exact hap j k hj om0 e a _ ha (hgb _ hq) rfl
def ulS (i:Nat):List Nat:=match i with|0=>[34]|1=>[35]|2=>[36]|3=>[37]|4=>[38]|5=>[39]|6=>[40]|7=>[41]|8=>[42]|9=>[43]|10=>[44]|11=>[45]|12=>[46]|13=>[47]|14=>[48]|_=>[]
def ulΦ (T:World) (pl kb kn kc ph k gb rn rc p:Nat) (l:List (Int × Int)) (i:Nat) (t:Nat→Value) (D:Nat→Bool) (w':World):Prop:=match i with
 |0=>t 34=.pointer (some ⟨pl,1,none⟩)
 |1=>t 35=.slice (some ⟨kb,0,none⟩) kn kc
 |2=>t 36=.pointer (some ⟨ph,0,none⟩)
 |3=>t 37=.int .i64 (k:Int)
 |4=>t 38=.pointer (some ⟨pl,1,none⟩)
 |5=>t 39=.slice (some ⟨kb,0,none⟩) kn kc
 |6=>t 40=.pointer (some ⟨ph,0,none⟩)
 |7=>t 41=.int .i64 (k:Int)
 |8=>t 42=.pointer (some ⟨kb,k,none⟩)
 |9=>t 43=.slice (some ⟨gb,0,none⟩) rn rc
 |10=>t 44=.int .i64 (p:Int)
 |11=>t 45=.int .i64 (p:Int)
 |12=>t 46=.int .i64 ((p:Int)+1)
 |13=>t 47=.slice (some ⟨gb,0,none⟩) (rn - 1) rc∧Own 32 2 f2 T w' (some ⟨gb,0,none⟩) (rn - 1) rc (cut l p)∧D 13=true
 |14=>t 48=.pointer (some ⟨kb,k,none⟩)
 |_=>True
theorem a6v(T:World)(pl kb kn kc ph k gb rn rc p:Nat)(l:List (Int × Int)){gq:Option Nat}(hGQ:gq=some gb∨gq=none):∀i t t' D w D' w',ulΦ T pl kb kn kc ph k gb rn rc p l i t D w→(∀s∈ulS i,t' s=t s)→ap4 13 gq D w D' w'→ulΦ T pl kb kn kc ph k gb rn rc p l i t' D' w':=by
 intro i t t' D w D' w' h hs' ht
 match i with
 |0=>exact(hs' 34 dc0).trans h
 |1=>exact(hs' 35 dc0).trans h
 |2=>exact(hs' 36 dc0).trans h
 |3=>exact(hs' 37 dc0).trans h
 |4=>exact(hs' 38 dc0).trans h
 |5=>exact(hs' 39 dc0).trans h
 |6=>exact(hs' 40 dc0).trans h
 |7=>exact(hs' 41 dc0).trans h
 |8=>exact(hs' 42 dc0).trans h
 |9=>exact(hs' 43 dc0).trans h
 |10=>exact(hs' 44 dc0).trans h
 |11=>exact(hs' 45 dc0).trans h
 |12=>exact(hs' 46 dc0).trans h
 |13=>exact⟨(hs' 47 dc0).trans h.1,ay6 h.2.1 ht h.2.2,ht.mono h.2.2⟩
 |14=>exact(hs' 48 dc0).trans h
 |i+15=>trivial
theorem V6{w:World}{kb kn k:Nat}{hs:List RH}(h:Lay fR w (some ⟨kb,0,none⟩) kn hs)(hk:k<kn):w.cell? ⟨kb,k,none⟩=some (.slice (nth dRH hs k).ao (nth dRH hs k).n (nth dRH hs k).cap):=by
 have h1:=O9 h.len (ab2 h om0) hk;rwa[Nat.zero_add]at h1
theorem Zi{α:Type}{f:α→List Value}{d:Nat}{gb:Option Nat}{D D':Nat→Bool}{T w w':World}{g n cap c:Nat}{l:List α}{e:TypeId}(h:Own e c f T w (some ⟨g,0,none⟩) n cap l)(ht:ap4 d gb D w D' w')(hne:some g≠gb):Own e c f T w' (some ⟨g,0,none⟩) n cap l:=
 Qq h ht.grow (fun a ha=>by cases ha;exact hne)
theorem az9(ao:Option Addr)(n cap:Nat)(ko:Option Addr)(kn kcap:Nat)(hs:List RH)(gr:Gr)(s g pos:Int)(w:World)(hG:QL w ao n ko kn hs gr):
  Calls Tryz.prog 123 #[.agg #[.slice ao n cap,.slice ko kn kcap],.agg #[.int .i64 s,.int .i64 g],.int .i64 pos] w fun e w'=>at4 w (z9 gr (s,g) pos) (zO gr (s,g) pos) e w':=by
 have hlen:=hG.kl;have hkh:=hG.kh.len;have hsl:=hG.sl.len;have m2:=hG.n2;rcases ak3 gr (s,g) (s,g)with he|he|he;rotate_left
 ·have hu:zO gr (s,g) pos=8:=by rw[zO,he,if_neg dc0]
  rw[hu,show z9 gr (s,g) pos=P4 by rw[z9,hu];rfl];go_enter Tryz.func123,Tryz.ntmps123;go_wp2_with (go_at_call 162;refine pm0 (ak9 he (hG.ex sk0) (by simp only[qe];simp[go_sem,↓IntWalk.iteOmega])) fun nx=>?_);exact bodyPost_ret (v:=.tuple #[.agg #[.slice none 0 0,.slice none 0 0],.int .i64 8]) (by simp[results,Tryz.results123,go_sem,↓IntWalk.iteOmega]) rfl ⟨none,0,none,0,[],rfl,sk0,zK⟩
 ·have hu:zO gr (s,g) pos=50:=by rw[zO,he,if_neg dc0]
  rw[hu,show z9 gr (s,g) pos=P4 by rw[z9,hu];rfl];go_enter Tryz.func123,Tryz.ntmps123;go_wp2_with (go_at_call 162;refine pm0 (ak9 he (hG.ex sk0) (by simp only[qe];simp[go_sem,↓IntWalk.iteOmega])) fun nx=>?_);exact bodyPost_ret (v:=.tuple #[.agg #[.slice none 0 0,.slice none 0 0],.int .i64 50]) (by simp[results,Tryz.results123,go_sem,↓IntWalk.iteOmega]) rfl ⟨none,0,none,0,[],rfl,sk0,zK⟩
 obtain⟨hok,hh,_⟩:=a1d he;have hl:=A8 hh;simp only at hl;obtain⟨_,h2,h3,_⟩:=zx hok;obtain⟨k,rfl⟩:∃k:Nat,s=(k:Int):=⟨s.toNat,om0⟩;rw[Int.toNat_natCast]at hl;have hkl:k<kn:=om0;have ik:(k:Int)<(kn:Int):=om0;obtain⟨kg,kf,rfl,hkg,hkc⟩:=hG.kh.some om0;have c1:=O9 hkh hkc hkl;have hrow:=hG.row k om0;have hrl:=hrow.len;have hn3:=hG.n3 k om0;have hra:K0 gr ((k:Int),g)=nth [] gr.ks k:=by rw[K0];show nth [] gr.ks ((k:Int)).toNat=_;rw[Int.toNat_natCast]
 have hue:zO gr ((k:Int),g) pos=if 0≤pos∧pos<((nth dRH hs k).n:Int)then 0 else 2:=by rw[zO,he,if_pos rfl,hra,hrl]
 by_cases hp0:pos<0
 ·rw[if_neg om0]at hue;rw[hue,show z9 gr ((k:Int),g) pos=P4 by rw[z9,hue];rfl];go_enter Tryz.func123,Tryz.ntmps123;go_wp2_with (go_at_call 162;refine pm0 (ak9 he (hG.ex sk0) (by simp only[qe];simp[go_sem,↓IntWalk.iteOmega])) fun nx=>?_);exact bodyPost_ret (v:=.tuple #[.agg #[.slice none 0 0,.slice none 0 0],.int .i64 2]) (by simp[results,Tryz.results123,go_sem,↓IntWalk.iteOmega]) rfl ⟨none,0,none,0,[],rfl,sk0,zK⟩
 have dp0:=decide_eq_false hp0;obtain⟨p,rfl⟩:∃p:Nat,pos=(p:Int):=⟨pos.toNat,om0⟩;by_cases hp1:(nth dRH hs k).n≤p
 ·have ip1:((nth dRH hs k).n:Int)≤(p:Int):=om0;rw[if_neg om0]at hue;rw[hue,show z9 gr ((k:Int),g) p=P4 by rw[z9,hue];rfl];go_enter Tryz.func123,Tryz.ntmps123;go_wp2_with (go_at_call 162;refine pm0 (ak9 he (hG.ex sk0) (by simp only[qe];simp[go_sem,↓IntWalk.iteOmega])) fun nx=>?_);exact bodyPost_ret (v:=.tuple #[.agg #[.slice none 0 0,.slice none 0 0],.int .i64 2]) (by simp[results,Tryz.results123,go_sem,↓IntWalk.iteOmega]) rfl ⟨none,0,none,0,[],rfl,sk0,zK⟩
 have ip1:¬((nth dRH hs k).n:Int)≤(p:Int):=om0;have dp1:=decide_eq_false ip1;rw[if_pos om0]at hue;have hres:z9 gr ((k:Int),g) p=⟨gr.sl,gr.ks.set k (cut (nth [] gr.ks k) p)⟩:=by
  rw[z9,hue,if_pos rfl,W6,hra];show Gr.mk gr.sl (gr.ks.set ((k:Int)).toNat (cut (nth [] gr.ks k) ((p:Int)).toNat))=_;rw[Int.toNat_natCast,Int.toNat_natCast]
 rw[hue,hres];go_enter Tryz.func123,Tryz.ntmps123;go_upto_region 7 with(first|(go_at_call 162;refine pm0 (ak9 he (hG.ex sk0) (by simp only[qe];simp[go_sem,↓IntWalk.iteOmega])) fun nx=>?_)|(go_at_call 39;refine(Za _ _ _ _ _ _ hs gr _ (hG.ex sk0)).mono ?_;rintro e w1 ⟨a1,c1',ka,kc,hs1,rfl,hw1,og,hap⟩));have z1:=qu hw1;simp[go_sem]at z1;have hx2:∃y,w1.alloc (.cells #[.slice a1 n c1',.slice ka kn kc] 27)=plus w y:=sn0;have bL0:(w1.alloc (.cells #[.slice a1 n c1',.slice ka kn kc] 27)).heap[w1.heap.size]?=some (.cells #[.slice a1 n c1',.slice ka kn kc] 27):=by rw[qe,if_pos rfl]
 have bH0:(w1.alloc (.cells #[.slice a1 n c1',.slice ka kn kc] 27)).heap[w.heap.size+1]?=some (.cells #[.int .i64 (k:Int),.int .i64 g] 32):=i7 (w:=w1) (qE (j5 _)) (i7 hw1 (i7 (zt (j5 _)) (by simp only[qe];simp[go_sem,↓IntWalk.iteOmega])));have bR0:(w1.alloc (.cells #[.slice a1 n c1',.slice ka kn kc] 27)).heap[w.heap.size+1+1]?=some (.cells #[.slice none 0 0,.slice none 0 0] 27):=i7 (w:=w1) (qE (j5 _)) (i7 hw1 (i7 (zt (j5 _)) (by simp only[qe];simp[go_sem,↓IntWalk.iteOmega])));have og2:=(og.ex (qE (o:=(.cells #[.slice a1 n c1',.slice ka kn kc] 27)) (j5 w1)));have zT:w.heap.size+1+1+1+1≤(plus (((((w.alloc (.cells #[.slice ao n cap,.slice (some ⟨kg,kf,none⟩) kn kcap] 27)).alloc (.cells #[.int .i64 (k:Int),.int .i64 g] 32)).alloc (.cells #[.slice none 0 0,.slice none 0 0] 27)).alloc (.cells #[.int .i64 (k:Int),.int .i64 g] 32))) nx).heap.size:=by rw[qn];simp[go_sem]
 clear og hw1;generalize hW2:w1.alloc (.cells #[.slice a1 n c1',.slice ka kn kc] 27)=w2 at*;generalize hWT:plus (((((w.alloc (.cells #[.slice ao n cap,.slice (some ⟨kg,kf,none⟩) kn kcap] 27)).alloc (.cells #[.int .i64 (k:Int),.int .i64 g] 32)).alloc (.cells #[.slice none 0 0,.slice none 0 0] 27)).alloc (.cells #[.int .i64 (k:Int),.int .i64 g] 32))) nx=T at*;clear hW2 hWT;obtain⟨kb,cu,rfl,hkb,hkbb,_⟩:=og2.kh.blk om0;have okh:=og2.kh;have hl2:=okh.1;have orow0:=og2.row k om0;have hrn:(nth dRH hs1 k).n=(nth dRH hs k).n:=orow0.1.symm.trans hrl;generalize hre:nth dRH hs1 k=r at*;obtain⟨ra,rn,rc⟩:=r;simp only at hrn orow0;subst hrn;obtain⟨gb,cg,rfl,hgb,hgbb,_⟩:=orow0.blk om0;have nL:w1.heap.size≠gb:=fun e=>by rw[e,hgbb]at bL0;cases bL0
 have nH:w.heap.size+1≠gb:=om0;have nR:w.heap.size+1+1≠gb:=om0;have nK:kb≠gb:=fun e=>by rw[e,hgbb]at hkbb;cases hkbb
 have orow:=orow0;have iw1:IntKind.i64.wrap ((p:Int)+1)=(p:Int)+1:=L5 om0;refine zR 15 ulS (ulΦ T w1.heap.size kb kn kc (w.heap.size+1) k gb (nth dRH hs k).n rc p (nth [] gr.ks k)) (ap4 13 (some gb)) S8 (Y6 _) kr0 kr0 dc0 (a6v T w1.heap.size kb kn kc (w.heap.size+1) k gb (nth dRH hs k).n rc p (nth [] gr.ks k) (.inl rfl)) ?steps ?fin
 case steps=>
  refine⟨?_,?_,?_,?_,?_,?_,?_,?_,?_,?_,?_,?_,?_,?_,?_,trivial⟩<;>intro a D w' hg hfree hdeep hD
  ·have f9_:=hfree 9 kr0;simp only[ulΦ,got]at f9_;simp[go_sem]at f9_;unfold Oper.wp;simp[go_sem,execOp,Act.eval,↓IntWalk.iteOmega,f9_];exact⟨_,rfl,t7 (j5 _),by simp[ulΦ,upd]⟩
  ·have d0:=hdeep 0 kr0;simp only[ulΦ,got]at d0;simp[go_sem]at d0;have c1_:=i6 (i:=1) (qI hg (fun e=>nL (by cases e;rfl)) bL0) rfl;unfold Oper.wp;simp[go_sem,execOp,Act.eval,↓IntWalk.iteOmega,d0,c1_];exact⟨_,rfl,t7 (j5 _),by simp[ulΦ,upd]⟩
  ·have f4_:=hfree 4 kr0;simp only[ulΦ,got]at f4_;simp[go_sem]at f4_;unfold Oper.wp;simp[go_sem,execOp,Act.eval,↓IntWalk.iteOmega,f4_];exact⟨_,rfl,t7 (j5 _),by simp[ulΦ,upd]⟩
  ·have d2:=hdeep 2 kr0;simp only[ulΦ,got]at d2;simp[go_sem]at d2;have c1_:=i6 (i:=0) (qI hg (fun e=>nH (by cases e;rfl)) bH0) rfl;unfold Oper.wp;simp[go_sem,execOp,Act.eval,↓IntWalk.iteOmega,d2,c1_];exact⟨_,rfl,t7 (j5 _),by simp[ulΦ,upd]⟩
  ·have f9_:=hfree 9 kr0;simp only[ulΦ,got]at f9_;simp[go_sem]at f9_;unfold Oper.wp;simp[go_sem,execOp,Act.eval,↓IntWalk.iteOmega,f9_];exact⟨_,rfl,t7 (j5 _),by simp[ulΦ,upd]⟩
  ·have d4:=hdeep 4 kr0;simp only[ulΦ,got]at d4;simp[go_sem]at d4;have c1_:=i6 (i:=1) (qI hg (fun e=>nL (by cases e;rfl)) bL0) rfl;unfold Oper.wp;simp[go_sem,execOp,Act.eval,↓IntWalk.iteOmega,d4,c1_];exact⟨_,rfl,t7 (j5 _),by simp[ulΦ,upd]⟩
  ·have f4_:=hfree 4 kr0;simp only[ulΦ,got]at f4_;simp[go_sem]at f4_;unfold Oper.wp;simp[go_sem,execOp,Act.eval,↓IntWalk.iteOmega,f4_];exact⟨_,rfl,t7 (j5 _),by simp[ulΦ,upd]⟩
  ·have d6:=hdeep 6 kr0;simp only[ulΦ,got]at d6;simp[go_sem]at d6;have c1_:=i6 (i:=0) (qI hg (fun e=>nH (by cases e;rfl)) bH0) rfl;unfold Oper.wp;simp[go_sem,execOp,Act.eval,↓IntWalk.iteOmega,d6,c1_];exact⟨_,rfl,t7 (j5 _),by simp[ulΦ,upd]⟩
  ·have d5:=hdeep 5 kr0;have d7:=hdeep 7 kr0;simp only[ulΦ,got]at d5 d7;simp[go_sem]at d5 d7;unfold Oper.wp;simp[go_sem,execOp,Act.eval,↓IntWalk.iteOmega,d5,d7,ik];exact⟨_,rfl,t7 (j5 _),by simp[ulΦ,upd]⟩
  ·have d8:=hdeep 8 kr0;simp only[ulΦ,got]at d8;simp[go_sem]at d8;have ck:=V6 (Zi okh hg (fun e=>nK (by cases e;rfl))).lay hkl;rw[hre]at ck;unfold Oper.wp;simp[go_sem,execOp,Act.eval,↓IntWalk.iteOmega,d8,ck];exact⟨_,rfl,t7 (j5 _),by simp[ulΦ,upd]⟩
  ·have f2_:=hfree 2 kr0;simp only[ulΦ,got]at f2_;simp[go_sem]at f2_;unfold Oper.wp;simp[go_sem,execOp,Act.eval,↓IntWalk.iteOmega,f2_];exact⟨_,rfl,t7 (j5 _),by simp[ulΦ,upd]⟩
  ·have f2_:=hfree 2 kr0;simp only[ulΦ,got]at f2_;simp[go_sem]at f2_;unfold Oper.wp;simp[go_sem,execOp,Act.eval,↓IntWalk.iteOmega,f2_];exact⟨_,rfl,t7 (j5 _),by simp[ulΦ,upd]⟩
  ·have d11:=hdeep 11 kr0;simp only[ulΦ,got]at d11;simp[go_sem]at d11;unfold Oper.wp;simp[go_sem,execOp,Act.eval,↓IntWalk.iteOmega,d11,iw1];exact⟨_,rfl,t7 (j5 _),by simp[ulΦ,upd]⟩
  ·have d9:=hdeep 9 kr0;have d10:=hdeep 10 kr0;have d12:=hdeep 12 kr0;simp only[ulΦ,got]at d9 d10 d12;simp[go_sem]at d9 d10 d12;obtain⟨x,rfl⟩:=B7 hg hD;unfold Oper.wp;simp[go_sem,execOp,Act.eval,↓IntWalk.iteOmega,d9,d10,d12];refine(aC7 T _ gb _ rc (nth [] gr.ks k) p (orow.ex ⟨x,rfl⟩) om0 om0).mono ?_;rintro e w1' ⟨rfl,hg1,o1⟩;exact⟨_,rfl,ak7 hg1 hD,by simp[upd],o1,y9 13⟩
  ·have d1:=hdeep 1 kr0;have d3:=hdeep 3 kr0;simp only[ulΦ,got]at d1 d3;simp[go_sem]at d1 d3;unfold Oper.wp;simp[go_sem,execOp,Act.eval,↓IntWalk.iteOmega,d1,d3,ik];exact⟨_,rfl,t7 (j5 _),by simp[ulΦ,upd]⟩
 case fin=>
  rintro t D w9 hDa hg hΦ;have r0:=hΦ 0 dc0;have r1:=hΦ 1 dc0;have r2:=hΦ 2 dc0;have r3:=hΦ 3 dc0;have r4:=hΦ 4 dc0;have r5:=hΦ 5 dc0;have r6:=hΦ 6 dc0;have r7:=hΦ 7 dc0;have r8:=hΦ 8 dc0;have r9:=hΦ 9 dc0;have r10:=hΦ 10 dc0;have r11:=hΦ 11 dc0;have r12:=hΦ 12 dc0;have r14:=hΦ 14 dc0;simp only[ulΦ]at r0 r1 r2 r3 r4 r5 r6 r7 r8 r9 r10 r11 r12 r14;obtain⟨r13,o9,hD9⟩:=hΦ 13 dc0;simp only[zh,List.take_succ_cons,List.take_zero,List.drop_succ_cons,List.drop_zero,r0,r1,r2,r3,r4,r5,r6,r7,r8,r9,r10,r11,r12,r13,r14];simp only[Act.put];simp only[List.setIfInBounds_toArray,List.set_cons_succ,List.set_cons_zero];clear hΦ r0 r1 r2 r3 r4 r5 r6 r7 r8 r9 r10 r11 r12 r13 r14;have bK9:=qI hg (fun e=>nK (by cases e;rfl)) hkbb;have ck9:=V6 (Zi okh hg (fun e=>nK (by cases e;rfl))).lay hkl;have zk9:=j9 (i:=k) bK9;have lk9:=qi bK9;have og3:=og2.upd (r:=⟨(some ⟨gb,0,none⟩),((nth dRH hs k).n - 1),rc⟩) (l:=cut (nth [] gr.ks k) p) hap hkl hg.grow (fun q hq=>by cases hq;rw[hre]) o9;have bL9:=qI hg (fun e=>nL (by cases e;rfl)) bL0;have bR9:=qI hg (fun e=>nR (by cases e;rfl)) bR0;have hx9:∃y,w9=plus w y:=ZF hg hx2 (fun q hq=>by cases hq;omega);have nKL:kb≠w1.heap.size:=fun e=>by rw[←e,hkbb]at bL0;cases bL0
  have nKR:kb≠w.heap.size+1+1:=fun e=>by rw[←e,hkbb]at bR0;cases bR0
  go_upto_region 8 with fail;have bL10:(w9.setCell ⟨kb,k,none⟩ (.slice (some ⟨gb,0,none⟩) ((nth dRH hs k).n - 1) rc)).heap[w1.heap.size]?=some (.cells #[.slice a1 n c1',.slice (some ⟨kb,0,none⟩) kn kc] 27):=(qd nKL).trans bL9;have bR10:(w9.setCell ⟨kb,k,none⟩ (.slice (some ⟨gb,0,none⟩) ((nth dRH hs k).n - 1) rc)).heap[w.heap.size+1+1]?=some (.cells #[.slice none 0 0,.slice none 0 0] 27):=(qd nKR).trans bR9;have hx10:∃y,w9.setCell ⟨kb,k,none⟩ (.slice (some ⟨gb,0,none⟩) ((nth dRH hs k).n - 1) rc)=plus w y:=qb hx9 om0;simp only at og3;refine zo (fun w'=>zS T w' a1 n c1' (some ⟨kb,0,none⟩) kn kc (hs1.set k ⟨(some ⟨gb,0,none⟩),((nth dRH hs k).n - 1),rc⟩) ⟨gr.sl,gr.ks.set k (cut (nth [] gr.ks k) p)⟩∧w'.heap[w1.heap.size]?=some (.cells #[.slice a1 n c1',.slice (some ⟨kb,0,none⟩) kn kc] 27)∧w'.heap[w.heap.size+1+1]?=some (.cells #[.slice none 0 0,.slice none 0 0] 27)∧∃y,w'=plus w y) ⟨og3,bL10,bR10,hx10⟩ ?_;clear og3 bL10 bR10 hx10 bK9 ck9 zk9 lk9 bL9 bR9 hx9 hg o9 okh orow og2 bL0 bR0 hx2 hkbb;rintro w4 ⟨og4,bL4,bR4,hx4⟩;have q0:=i6 (i:=0) bL4 rfl;have q1:=i6 (i:=1) bL4 rfl;have s0:=i6 (i:=0) bR4 rfl;have s1:=i6 (i:=1) bR4 rfl;have y0:=j9 (i:=0) bR4;have y1:=j9 (i:=1) bR4;have lL4:=qi bL4;have lR4:=qi bR4;have og5:=(og4.set_other (i:=0) (u:=.slice a1 n c1') bR4 dc0 dc0 dc0).set_other (i:=1) (u:=.slice (some ⟨kb,0,none⟩) kn kc) (j7 bR4) dc0 dc0 dc0;have bR5:=j7 (i:=1) (u:=.slice (some ⟨kb,0,none⟩) kn kc) (j7 (i:=0) (u:=.slice a1 n c1') bR4);have hx5:=qb (i:=1) (u:=.slice (some ⟨kb,0,none⟩) kn kc) (g:=w.heap.size+1+1) (qb (i:=0) (u:=.slice a1 n c1') (g:=w.heap.size+1+1) hx4 om0) om0;clear og4;go_wp2;generalize (w4.setCell ⟨w.heap.size+1+1,0,none⟩ (.slice a1 n c1')).setCell ⟨w.heap.size+1+1,1,none⟩ (.slice (some ⟨kb,0,none⟩) kn kc)=w5 at*;have t0:=i6 (i:=0) bR5 rfl;have t1:=i6 (i:=1) bR5 rfl;have hlk:(gr.ks.set k (cut (nth [] gr.ks k) p)).length=kn:=by rw[List.length_set,hlen]
  have hpost:at4 w ⟨gr.sl,gr.ks.set k (cut (nth [] gr.ks k) p)⟩ 0 (.returned (.tuple #[.agg #[.slice a1 n c1',.slice (some ⟨kb,0,none⟩) kn kc],.int .i64 0])) w5:=by
   refine⟨a1,c1',some ⟨kb,0,none⟩,kc,hs1.set k ⟨(some ⟨gb,0,none⟩),((nth dRH hs k).n - 1),rc⟩,?_,hx5,?_⟩
   ·show Ending.returned (.tuple #[.agg #[.slice a1 n c1',.slice (some ⟨kb,0,none⟩) kn kc],.int .i64 0])=.returned (.tuple #[.agg #[.slice a1 gr.sl.length c1',.slice (some ⟨kb,0,none⟩) (gr.ks.set k (cut (nth [] gr.ks k) p)).length kc],.int .i64 0]);rw[hlk,hsl]
   ·show zS w w5 a1 gr.sl.length c1' (some ⟨kb,0,none⟩) (gr.ks.set k (cut (nth [] gr.ks k) p)).length kc _ _;rw[hlk,hsl];exact og5.base om0
  exact bodyPost_ret (v:=.tuple #[.agg #[.slice a1 n c1',.slice (some ⟨kb,0,none⟩) kn kc],.int .i64 0]) (by simp[results,Tryz.results123,go_sem,t0,t1]) rfl hpost
end
/- What the parts of slices.Insert give of handles:append of a make,overlaps. -/
section
theorem ah5{w:World}{g i cap kk:Nat}(ty:TypeId)(olds:List Value)(hlo:olds.length=i*2)(ZO:∀j v,olds[j]?=some v→w.cell? ⟨g,0+j,none⟩=some v)(hgt:cap<i+kk)(hk:i+kk≤10000)(hk0:0<kk):
  (Builtin.append_ #[88,3] ty #[.slice (some ⟨g,0,none⟩) i cap,.int .i64 (kk:Int)]).run Tryz.prog w=.ok (.slice (some ⟨w.heap.size,0,none⟩) (i+kk) (grownCap w (i+kk) cap 32))
   (w.drew.alloc (.cells (olds.toArray++Builtin.zeroCells #[.int .i64 0,.int .i64 0] kk++Builtin.zeroCells #[.int .i64 0,.int .i64 0] (grownCap w (i+kk) cap 32 - (i+kk))) 32)):=by
 obtain⟨ti,hi,hz0,hz1,hz2⟩:=info_parts (show(Tryz.prog.info? 32).map (fun i=>(i.zero,i.size,i.bytes))=some (some (.agg #[.int .i64 0,.int .i64 0]),2,16)by kernel_rfl);have hn:¬(i+kk≤cap):=om0;have hw:IntKind.i64.wrap (kk:Int)=(kk:Int):=L5 om0;have h0:¬((kk:Int)<0):=om0;have hb:¬(281474976710656<(kk:Int)*16):=om0;have h63':¬(9223372036854775807<((i:Int)+(kk:Int))):=om0;have hfit:Builtin.nextslicecap (i+kk) cap*16≤281474976710656:=growslice_fits hgt om0;have h48':¬(281474976710656<Builtin.nextslicecap (i+kk) cap*16):=om0;have hfo:=run_firstCells_some (P:=Tryz.prog) w.drew 2 i ⟨g,0,none⟩ i cap olds hlo (by intro j v hv;have hadd:(⟨g,0,none⟩:Addr).add j=⟨g,0+j,none⟩:=(by unfold Addr.add;split<;>simp_all);rw[hadd];exact ZO j v hv);have hk0':¬kk=0:=om0;simp[Builtin.append_,run_underlying Tryz.underlying88,run_underlying Tryz.underlying3,sizeOf,typeInfo,zeroValue,hi,hz0,hz1,hz2,Builtin.lenOf,hn,hw,h0,hb,h63',h48',Question.forced,hfo,newRow,grownCap,asInt,asIntOf,Value.cells,hk0'];intro h9;omega
theorem a1c{w:World}{q g o1 o2 n1 n2 c1 c2:Nat}{a b:Array Value}{ta tb:TypeId}(hq:w.heap[q]?=some (.cells a ta))(hg:w.heap[g]?=some (.cells b tb))(hne:q≠g):(callFunc 179 #[.slice (some ⟨q,o1,none⟩) n1 c1,.slice (some ⟨g,o2,none⟩) n2 c2]).run Tryz.prog w=.ok (.value (.bool false)) w:=by
 rw[run_callFunc_extern (e:=Extern.SlicesOverlaps.overlaps #[88,88] #[4]) Tryz.func179 kr0 kr0 kr0 kr0];obtain⟨ti,hi,hz0,hz1,hz2⟩:=info_parts (show(Tryz.prog.info? 32).map (fun i=>(i.zero,i.size,i.bytes))=some (some (.agg #[.int .i64 0,.int .i64 0]),2,16)by kernel_rfl);have s1:w.shape? q=some (ta,a.size):=by simp[World.shape?,hq]
 have s2:w.shape? g=some (tb,b.size):=by simp[World.shape?,hg]
 have f1:∀i,w.frozen? ⟨q,i,none⟩=false:=fun i=>j9 hq
 have f2:∀i,w.frozen? ⟨g,i,none⟩=false:=fun i=>j9 hg
 have hne':(q==g)=false:=by rw[beq_eq_false_iff_ne];exact hne
 have hu:=Tryz.underlying88;have pb:∀(d:TypeDesc) (f:TypeDesc→Sem Value),(Sem.bind (pure d) f)=f d:=fun _ _=>rfl
 by_cases h0:n1=0∨n2=0
 ·conv in (Extern.SlicesOverlaps.overlaps _ _ _)=>whnf
  simp[Sem.run,Sem.bind,pb,hu,sizeOf,typeInfo,hi,hz1,h0,←or_assoc,Result.andThen]
 ·conv in (Extern.SlicesOverlaps.overlaps _ _ _)=>whnf
  have h1:¬n1=0:=fun e=>h0 (.inl e)
  have h2:¬n2=0:=fun e=>h0 (.inr e)
  simp[Sem.run,Sem.bind,pb,hu,sizeOf,typeInfo,hi,hz1,h1,h2,f1,f2,s1,s2,hne,hne',noView,viewAt,mayBeOne,stringish,Result.andThen]
end
/- What slices.Insert gives of handles,one put in. -/
section
section
variable {X A V B:List Value} {i n C:Nat}
theorem a76(hA:X.take (i*2)=A)(hX:X.length=C*2)(hC:n+1≤C)(hi:i≤n)(hV:V.length=2)(hB:B.length=(n - i)*2):
  (((X.take (i*2)++V++X.drop (i*2+V.length)).take ((i+1)*2)++B++(X.take (i*2)++V++X.drop (i*2+V.length)).drop ((i+1)*2+B.length)).take ((n+1)*2))=A++V++B∧((X.take (i*2)++V++X.drop (i*2+V.length)).take ((i+1)*2)++B++(X.take (i*2)++V++X.drop (i*2+V.length)).drop ((i+1)*2+B.length)).length=C*2:=by
 have hAl:A.length=i*2:=by rw[←hA,List.length_take];omega
 rw[hA];have e1:(A++V++X.drop (i*2+V.length)).take ((i+1)*2)=A++V:=by
  rw[List.take_append_of_le_length (by rw[List.length_append];omega)];exact List.take_of_length_le (by rw[List.length_append];omega)
 rw[e1];refine⟨?_,?_⟩
 ·rw[List.take_append_of_le_length (by rw[List.length_append,List.length_append];omega)];exact List.take_of_length_le (by rw[List.length_append,List.length_append];omega)
 ·simp only[List.length_append,List.length_drop];omega
theorem a8F(hA:X.take (i*2)=A)(hX:X.length=C*2)(hC:n+1≤C)(hi:i≤n)(hV:V.length=2)(hB:B.length=(n - i)*2):
  (((X.take ((i+1)*2)++B++X.drop ((i+1)*2+B.length)).take (i*2)++V++(X.take ((i+1)*2)++B++X.drop ((i+1)*2+B.length)).drop (i*2+V.length)).take ((n+1)*2))=A++V++B∧((X.take ((i+1)*2)++B++X.drop ((i+1)*2+B.length)).take (i*2)++V++(X.take ((i+1)*2)++B++X.drop ((i+1)*2+B.length)).drop (i*2+V.length)).length=C*2:=by
 have hAl:A.length=i*2:=by rw[←hA,List.length_take];omega
 have hT:(X.take ((i+1)*2)).length=(i+1)*2:=by rw[List.length_take];omega
 have e1:(X.take ((i+1)*2)++B++X.drop ((i+1)*2+B.length)).take (i*2)=A:=by
  rw[List.append_assoc,List.take_append_of_le_length om0,List.take_take,Nat.min_eq_left om0];exact hA
 have e2:(X.take ((i+1)*2)++B++X.drop ((i+1)*2+B.length)).drop (i*2+V.length)=B++X.drop ((i+1)*2+B.length):=by
  rw[List.append_assoc,show i*2+V.length=(X.take ((i+1)*2)).length by omega,List.drop_left]
 rw[e1,e2];refine⟨?_,?_⟩
 ·rw[←List.append_assoc,List.take_append_of_le_length (by rw[List.length_append,List.length_append];omega)];exact List.take_of_length_le (by rw[List.length_append,List.length_append];omega)
 ·simp only[List.length_append,List.length_drop];omega
end
theorem a2L(l:List (Int × Int))(i:Nat)(c:Int × Int):(put l i c).flatMap f2=(l.take i).flatMap f2++f2 c++(l.drop i).flatMap f2:=by
 rw[put,List.flatMap_append,List.flatMap_cons,List.append_assoc]
theorem a2P(w:World)(o:Obj)(g:Nat):(w.drew.alloc o).heap[g]?=if g=w.heap.size then some o else w.heap[g]?:=qe w.drew o g
theorem at1{w w1 w2:World}{r:Option Nat}{k:Nat}(h1:w.grownBy w1 r)(h2:w1.grownBy w2 (some k))(hk:w.heap.size≤k):w.grownBy w2 r:=
 ⟨h2.os.trans h1.os,h2.tape.trans h1.tape,h2.output.trans h1.output,Nat.le_trans h1.size h2.size,fun j hj hne=>(h2.block j (Nat.lt_of_lt_of_le hj h1.size) (fun e=>by cases e;omega)).trans (h1.block j hj hne)⟩
def a8A (T w:World) (ao:Option Addr) (n cap:Nat) (l:List (Int × Int)) (e:Ending) (w':World):Prop:=∃ao' cap',e=.returned (.slice ao' (n+1) cap')∧w.grownBy w' (Value.ownBlock (.slice ao n cap))∧Own 32 2 f2 T w' ao' (n+1) cap' l
theorem aA0(T w:World)(q cq:Nat)(c d:Int)(hT:∃y,w=plus T y)(hq:w.heap[q]?=some (.cells #[.int .i64 c,.int .i64 d] 32)):
  Calls Tryz.prog 163 #[.slice none 0 0,.int .i64 ((0:Nat):Int),.slice (some ⟨q,0,none⟩) 1 cq] w fun e w'=>a8A T w none 0 0 [(c,d)] e w':=by
 go_enter Tryz.func163,Tryz.ntmps163;go_wp2_with (at_builtin;(refine qW (T:=T) (l:=[]) rfl _ _ rfl ad6 Q1 ZV rfl hT zd rfl (Zc hq) om0 dc0 ?_;intro ao' cap' w1 o1 hx1 hg1));go_ret;exact⟨ao',cap',rfl,hg1,o1⟩
theorem aC2(T w:World)(g n cap:Nat)(l:List (Int × Int))(q cq:Nat)(c d:Int)(hT:∃y,w=plus T y)(h:Own 32 2 f2 T w (some ⟨g,0,none⟩) n cap l)(hn:n≤1000)(hq:w.heap[q]?=some (.cells #[.int .i64 c,.int .i64 d] 32)):
  Calls Tryz.prog 163 #[.slice (some ⟨g,0,none⟩) n cap,.int .i64 (n:Int),.slice (some ⟨q,0,none⟩) 1 cq] w fun e w'=>a8A T w (some ⟨g,0,none⟩) n cap (l++[(c,d)]) e w':=by
 have hcap:=h.cap_le;have i1:(n:Int)≤(cap:Int):=om0;by_cases hc:cap=n
 ·subst hc;go_enter Tryz.func163,Tryz.ntmps163;go_wp2_with (at_builtin;(refine qW (T:=T) rfl _ _ rfl ad6 Q1 ZV rfl hT h rfl (Zc hq) om0 dc0 ?_;intro ao' cap' w1 o1 hx1 hg1));go_ret;exact⟨ao',cap',rfl,hg1,o1⟩
 ·have hc':¬n=cap:=fun e=>hc e.symm
  go_enter Tryz.func163,Tryz.ntmps163;go_wp2_with (at_builtin;(refine qW (T:=T) rfl _ _ rfl ad6 Q1 ZV rfl hT h rfl (Zc hq) om0 dc0 ?_;intro ao' cap' w1 o1 hx1 hg1));go_ret;exact⟨ao',cap',rfl,hg1,o1⟩
def ibS (i:Nat):List Nat:=match i with|0=>[46]|1=>[47]|2=>[48]|3=>[49]|4=>[50]|5=>[51]|6=>[52]|7=>[53]|_=>[]
def ibΦ (g q2 ix n cap C:Nat) (i:Nat) (t:Nat→Value) (w':World):Prop:=match i with
 |0=>t 46=.slice (some ⟨q2,0,none⟩) (n+1) C
 |1=>t 47=.int .i64 (ix:Int)
 |2=>t 48=.int .i64 1
 |3=>t 49=.int .i64 ((ix:Int)+1)
 |4=>t 50=.slice (some ⟨q2,(ix+1)*2,none⟩) (n - ix) (C - (ix+1))
 |5=>t 51=.slice (some ⟨g,0,none⟩) n cap
 |6=>t 52=.int .i64 (ix:Int)
 |7=>t 53=.slice (some ⟨g,ix*2,none⟩) (n - ix) (cap - ix)
 |_=>True
theorem a6O(g q2 ix n cap C:Nat):∀i t t' w' x,ibΦ g q2 ix n cap C i t w'→(∀s∈ibS i,t' s=t s)→ibΦ g q2 ix n cap C i t' (plus w' x):=by
 intro i t t' w' x h hs'
 match i with
 |0=>exact(hs' 46 dc0).trans h
 |1=>exact(hs' 47 dc0).trans h
 |2=>exact(hs' 48 dc0).trans h
 |3=>exact(hs' 49 dc0).trans h
 |4=>exact(hs' 50 dc0).trans h
 |5=>exact(hs' 51 dc0).trans h
 |6=>exact(hs' 52 dc0).trans h
 |7=>exact(hs' 53 dc0).trans h
 |i+8=>trivial
theorem aA7(T w:World)(g n:Nat)(l:List (Int × Int))(i q cq:Nat)(c d:Int)(hT:∃y,w=plus T y)(h:Own 32 2 f2 T w (some ⟨g,0,none⟩) n n l)(hn:n≤1000)(hi:i<n)(hq:w.heap[q]?=some (.cells #[.int .i64 c,.int .i64 d] 32)):
  Calls Tryz.prog 163 #[.slice (some ⟨g,0,none⟩) n n,.int .i64 (i:Int),.slice (some ⟨q,0,none⟩) 1 cq] w fun e w'=>a8A T w (some ⟨g,0,none⟩) n n (put l i (c,d)) e w':=by
 have hl:=h.1;obtain⟨cur,hb,hs,ht,hTg,hnc,hmx⟩:=QX h;have hTs:=qu hT;have hqs:=qi hq;have hgs:=qi hb;have dn:((i:Int)==(n:Int))=false:=by rw[beq_eq_false_iff_ne];omega
 have i1:(i:Int)≤(n:Int):=om0;have i2:(0:Int)≤(i:Int):=om0;have i3:¬n=i:=om0;have i4:¬i=n:=om0;have iw:IntKind.i64.wrap ((n:Int)+1)=(n:Int)+1:=L5 om0;have iw2:IntKind.i64.wrap ((n:Int)+1 - (i:Int))=((n+1 - i:Nat):Int):=by rw[L5 om0];omega
 have iw1:IntKind.i64.wrap ((i:Int)+1)=(i:Int)+1:=L5 om0;have gt:(n:Int)<(n:Int)+1:=om0;have hF:(l.flatMap f2).take (i*2)=(l.take i).flatMap f2:=aa6 Q1 l i om0;have hAl:((l.take i).flatMap f2).length=i*2:=by rw[zE Q1,List.length_take];omega
 have hr:=ah5 (w:=w) (g:=g) (i:=i) (cap:=n) (kk:=n+1 - i) 88 ((l.take i).flatMap f2) hAl (fun j v hv=>(ab2 (a1B Q1 h (i:=i) om0).lay (by
  have:=(List.getElem?_eq_some_iff.1 hv).1;omega)) j v hv) om0 om0 om0
 rw[show i+(n+1 - i)=n+1 by omega]at hr;have hge:=grownCap_ge w (n+1) n 32;have hcm:grownCap w (n+1) n 32≤maxLen:=grownCap_le_maxLen w (n+1) n 32 (by unfold maxLen;omega);generalize hC:grownCap w (n+1) n 32=C at*;generalize hX:((l.take i).flatMap f2).toArray++Builtin.zeroCells #[.int .i64 0,.int .i64 0] (n+1 - i)++Builtin.zeroCells #[.int .i64 0,.int .i64 0] (C - (n+1))=X at*;have hXl:X.toList.length=C*2:=by
  rw[←hX];simp only[Array.toList_append,List.length_append,ao6,hAl];omega
 have hXA:X.toList.take (i*2)=(l.take i).flatMap f2:=by
  rw[←hX];simp only[Array.toList_append,List.append_assoc];rw[List.take_append_of_le_length om0];exact List.take_of_length_le om0
 clear hX;obtain⟨hf1,hf2⟩:=a76 (V:=f2 (c,d)) (B:=(l.drop i).flatMap f2) (n:=n) hXA hXl hge om0 rfl (by rw[zE Q1,List.length_drop,hl]);have k1:(0:Int)≤(i:Int)+1:=om0;have k2:(i:Int)+1≤((n+1:Nat):Int):=om0;have k3:(i:Int)+1≤(C:Int):=om0;have k4:((i:Int)+1).toNat=i+1:=om0;have k5:¬C=i+1:=om0;have k6:(i:Int)≤((n+1:Nat):Int):=om0;have k7:¬C=i:=om0;go_enter Tryz.func163,Tryz.ntmps163;go_upto_region 10 with(at_builtin;refine Qa rfl _ _ rfl rfl rfl hr ?_;simp only[Act.put,List.setIfInBounds_toArray,List.set_cons_succ,List.set_cons_zero]);clear hr;have hb1:(w.drew.alloc (.cells X 32)).heap[w.heap.size]?=some (.cells X 32):=by rw[a2P,if_pos rfl]
 have hq1:(w.drew.alloc (.cells X 32)).heap[q]?=some (.cells #[.int .i64 c,.int .i64 d] 32):=by rw[a2P,if_neg (Nat.ne_of_lt hqs)];exact hq
 have hg1:w.grownBy (w.drew.alloc (.cells X 32)) (some g):=⟨rfl,rfl,rfl,by simp,fun k hk _=>by rw[a2P,if_neg (Nat.ne_of_lt hk)]⟩;have hw1:=Qq h (w':=w.drew.alloc (.cells X 32)) (gb:=none) ⟨rfl,rfl,rfl,by simp,fun k hk _=>by rw[a2P,if_neg (Nat.ne_of_lt hk)]⟩ (fun a _=>by simp);generalize w.drew.alloc (.cells X 32)=W1 at*;have hmin:Nat.min 1 (n+1 - i)=1:=Nat.min_eq_left om0;have hXs:X.size=C*2:=by simpa using hXl
 have hX1l:(X.toList.take (i*2)++f2 (c,d)++X.toList.drop (i*2+(f2 (c,d)).length)).length=C*2:=by
  simp only[List.length_append,List.length_take,List.length_drop,show(f2 (c,d)).length=2 from rfl];omega
 have hcp1:=Qn (P:=Tryz.prog) (w:=W1) (g:=w.heap.size) (cur:=X) (o0:=i*2) (dn:=n+1 - i) (dc:=C - i) (q:=q) (off:=0) (sn:=1) (sc:=cq) (t2:=88) (ty:=3) ad6 (f2 (c,d)) (by rw[hmin];rfl) (ZV (c,d)) hb1 (fun j u hu=>ab2 (Zc hq1) dc0 j u (by simpa using hu)) (by show i*2+2≤X.size;omega);rw[hmin]at hcp1;have hb2:=setRow_heap W1 w.heap.size X (X.toList.take (i*2)++f2 (c,d)++X.toList.drop (i*2+(f2 (c,d)).length)).toArray 32 (0,0) hb1;have hg2:=at1 hg1 (Qr W1 w.heap.size (X.toList.take (i*2)++f2 (c,d)++X.toList.drop (i*2+(f2 (c,d)).length)).toArray) (Nat.le_refl _);have hw2:=Qq hw1 (Qr W1 w.heap.size (X.toList.take (i*2)++f2 (c,d)++X.toList.drop (i*2+(f2 (c,d)).length)).toArray) (fun a ha=>by cases ha;simp only[ne_eq,Option.some.injEq];omega);clear hb1 hq1 hg1 hw1 hXA;generalize X.toList.take (i*2)++f2 (c,d)++X.toList.drop (i*2+(f2 (c,d)).length)=X1 at*;generalize W1.setRow w.heap.size X1.toArray=W2 at*;go_upto_region 11 with fail;clear hcp1;refine zJ 8 ibS (ibΦ g w.heap.size i n n C) kr0 kr0 dc0 (a6O g w.heap.size i n n C) ?steps ?fin
 case steps=>
  refine⟨?_,?_,?_,?_,?_,?_,?_,?_,trivial⟩<;>intro a w' hg hfree hdeep<;>obtain⟨x,rfl⟩:=hg
  ·have f9_:=hfree 9 kr0;simp only[ibΦ,got]at f9_;simp[go_sem]at f9_;unfold Oper.wp;simp[go_sem,execOp,Act.eval,↓IntWalk.iteOmega,f9_];exact⟨_,rfl,j5 _,by simp[ibΦ,upd]⟩
  ·have f1_:=hfree 1 kr0;simp only[ibΦ,got]at f1_;simp[go_sem]at f1_;unfold Oper.wp;simp[go_sem,execOp,Act.eval,↓IntWalk.iteOmega,f1_];exact⟨_,rfl,j5 _,by simp[ibΦ,upd]⟩
  ·have f7_:=hfree 7 kr0;simp only[ibΦ,got]at f7_;simp[go_sem]at f7_;unfold Oper.wp;simp[go_sem,execOp,Act.eval,↓IntWalk.iteOmega,f7_];exact⟨_,rfl,j5 _,by simp[ibΦ,upd]⟩
  ·have d1:=hdeep 1 kr0;have d2:=hdeep 2 kr0;simp only[ibΦ,got]at d1 d2;unfold Oper.wp;simp[go_sem,execOp,Act.eval,↓IntWalk.iteOmega,d1,d2,iw1];exact⟨_,rfl,j5 _,by simp[ibΦ,upd]⟩
  ·have d0:=hdeep 0 kr0;have d3:=hdeep 3 kr0;simp only[ibΦ,got]at d0 d3;unfold Oper.wp;simp[go_sem,execOp,Act.eval,↓IntWalk.iteOmega,d0,d3,k1,k2,k3,k4,k5];exact⟨_,rfl,j5 _,by simp[ibΦ,upd]⟩
  ·have f0_:=hfree 0 kr0;simp only[ibΦ,got]at f0_;simp[go_sem]at f0_;unfold Oper.wp;simp[go_sem,execOp,Act.eval,↓IntWalk.iteOmega,f0_];exact⟨_,rfl,j5 _,by simp[ibΦ,upd]⟩
  ·have f1_:=hfree 1 kr0;simp only[ibΦ,got]at f1_;simp[go_sem]at f1_;unfold Oper.wp;simp[go_sem,execOp,Act.eval,↓IntWalk.iteOmega,f1_];exact⟨_,rfl,j5 _,by simp[ibΦ,upd]⟩
  ·have d5:=hdeep 5 kr0;have d6:=hdeep 6 kr0;simp only[ibΦ,got]at d5 d6;unfold Oper.wp;simp[go_sem,execOp,Act.eval,↓IntWalk.iteOmega,d5,d6,i1,i2,i3,i4];exact⟨_,rfl,j5 _,by simp[ibΦ,upd]⟩
 case fin=>
  rintro t w' ⟨x2,rfl⟩ hΦ;have r0:=hΦ 0 dc0;have r1:=hΦ 1 dc0;have r2:=hΦ 2 dc0;have r3:=hΦ 3 dc0;have r4:=hΦ 4 dc0;have r5:=hΦ 5 dc0;have r6:=hΦ 6 dc0;have r7:=hΦ 7 dc0;simp only[ibΦ]at r0 r1 r2 r3 r4 r5 r6 r7;simp only[zh,List.take_succ_cons,List.take_zero,List.drop_succ_cons,List.drop_zero,r0,r1,r2,r3,r4,r5,r6,r7];simp only[Act.put];simp only[List.setIfInBounds_toArray,List.set_cons_succ,List.set_cons_zero];clear hΦ r0 r1 r2 r3 r4 r5 r6 r7;have hb3:=i7 (w':=plus W2 x2) ⟨x2,rfl⟩ hb2;have hw3:=(hw2.ex (w':=plus W2 x2) ⟨x2,rfl⟩).lay.drop Q1 (k:=i) om0;rw[Nat.zero_add]at hw3;have hBl:((l.drop i).flatMap f2).length=(n - i)*2:=by rw[zE Q1,List.length_drop,hl]
  have hcp2:=Qn (P:=Tryz.prog) (w:=plus W2 x2) (g:=w.heap.size) (cur:=X1.toArray) (o0:=(i+1)*2) (dn:=n - i) (dc:=C - (i+1)) (q:=g) (off:=i*2) (sn:=n - i) (sc:=n - i) (t2:=88) (ty:=3) ad6 ((l.drop i).flatMap f2) (by rw[show Nat.min (n - i) (n - i)=n - i from Nat.min_self _,hBl]) (Zy ZV _) hb3 (ab2 hw3 om0) (by rw[List.size_toArray,hX1l,hBl];omega);have hb4:=setRow_heap (plus W2 x2) w.heap.size X1.toArray (X1.take ((i+1)*2)++(l.drop i).flatMap f2++X1.drop ((i+1)*2+((l.drop i).flatMap f2).length)).toArray 32 (0,0) hb3;have hg4:=at1 (hg2.trans (Qz _ ⟨x2,rfl⟩)) (Qr (plus W2 x2) w.heap.size (X1.take ((i+1)*2)++(l.drop i).flatMap f2++X1.drop ((i+1)*2+((l.drop i).flatMap f2).length)).toArray) (Nat.le_refl _);generalize X1.take ((i+1)*2)++(l.drop i).flatMap f2++X1.drop ((i+1)*2+((l.drop i).flatMap f2).length)=X2 at*;generalize (plus W2 x2).setRow w.heap.size X2.toArray=W3 at*;go_wp2;go_ret;exact⟨some ⟨w.heap.size,0,none⟩,C,rfl,hg4,a06 (by rw[a2a om0,hl]) Q1 hb4 hTs hge hcm (by rw[List.size_toArray];exact hf2) (by rw[a2L];exact hf1)⟩
end
/- What slices.Insert gives of handles,where there is room;and in every case. -/
section
def icS (i:Nat):List Nat:=match i with|0=>[69]|1=>[70]|2=>[71]|3=>[72]|4=>[73]|5=>[74]|6=>[75]|7=>[76]|_=>[]
def icΦ (g ix n cap:Nat) (i:Nat) (t:Nat→Value) (w':World):Prop:=match i with
 |0=>t 69=.slice (some ⟨g,0,none⟩) (n+1) cap
 |1=>t 70=.int .i64 (ix:Int)
 |2=>t 71=.int .i64 1
 |3=>t 72=.int .i64 ((ix:Int)+1)
 |4=>t 73=.slice (some ⟨g,(ix+1)*2,none⟩) (n - ix) (cap - (ix+1))
 |5=>t 74=.slice (some ⟨g,0,none⟩) (n+1) cap
 |6=>t 75=.int .i64 (ix:Int)
 |7=>t 76=.slice (some ⟨g,ix*2,none⟩) (n+1 - ix) (cap - ix)
 |_=>True
theorem a6R(g ix n cap:Nat):∀i t t' w' x,icΦ g ix n cap i t w'→(∀s∈icS i,t' s=t s)→icΦ g ix n cap i t' (plus w' x):=by
 intro i t t' w' x h hs'
 match i with
 |0=>exact(hs' 69 dc0).trans h
 |1=>exact(hs' 70 dc0).trans h
 |2=>exact(hs' 71 dc0).trans h
 |3=>exact(hs' 72 dc0).trans h
 |4=>exact(hs' 73 dc0).trans h
 |5=>exact(hs' 74 dc0).trans h
 |6=>exact(hs' 75 dc0).trans h
 |7=>exact(hs' 76 dc0).trans h
 |i+8=>trivial
theorem aC1(T w:World)(g n cap:Nat)(l:List (Int × Int))(i q cq:Nat)(c d:Int)(h:Own 32 2 f2 T w (some ⟨g,0,none⟩) n cap l)(hn:n≤1000)(hi:i<n)(hroom:n+1≤cap)(hq:w.heap[q]?=some (.cells #[.int .i64 c,.int .i64 d] 32))(hne:q≠g):
  Calls Tryz.prog 163 #[.slice (some ⟨g,0,none⟩) n cap,.int .i64 (i:Int),.slice (some ⟨q,0,none⟩) 1 cq] w fun e w'=>a8A T w (some ⟨g,0,none⟩) n cap (put l i (c,d)) e w':=by
 have hl:=h.1;obtain⟨cur,hb,hs,ht,hTg,hnc,hmx⟩:=QX h;have hqs:=qi hq;have hgs:=qi hb;have dn:((i:Int)==(n:Int))=false:=by rw[beq_eq_false_iff_ne];omega
 have i1:(i:Int)≤(n:Int):=om0;have i2:(0:Int)≤(i:Int):=om0;have i3:¬cap=i:=om0;have i4:(i:Int)≤(cap:Int):=om0;have iw:IntKind.i64.wrap ((n:Int)+1)=(n:Int)+1:=L5 om0;have iw1:IntKind.i64.wrap ((i:Int)+1)=(i:Int)+1:=L5 om0;have gt:¬(cap:Int)<(n:Int)+1:=om0;have gt2:(n:Int)+1≤(cap:Int):=om0;have gt3:(0:Int)≤(n:Int)+1:=om0;have gt4:((n:Int)+1).toNat=n+1:=om0;have k1:(0:Int)≤(i:Int)+1:=om0;have k2:(i:Int)+1≤((n+1:Nat):Int):=om0;have k3:(i:Int)+1≤(cap:Int):=om0;have k4:((i:Int)+1).toNat=i+1:=om0;have k5:¬cap=i+1:=om0;have k6:(i:Int)≤((n+1:Nat):Int):=om0;have k7:¬cap=i:=om0;have hov:=a1c (o1:=0) (n1:=1) (c1:=cq) (o2:=(i+1)*2) (n2:=n - i) (c2:=cap - (i+1)) hq hb hne;go_enter Tryz.func163,Tryz.ntmps163;go_upto_region 15 with fail;clear hov;refine zJ 8 icS (icΦ g i n cap) kr0 kr0 dc0 (a6R g i n cap) ?steps ?fin
 case steps=>
  refine⟨?_,?_,?_,?_,?_,?_,?_,?_,trivial⟩<;>intro a w' hg hfree hdeep<;>obtain⟨x,rfl⟩:=hg
  ·have f0_:=hfree 0 kr0;simp only[icΦ,got]at f0_;simp[go_sem]at f0_;unfold Oper.wp;simp[go_sem,execOp,Act.eval,↓IntWalk.iteOmega,f0_];exact⟨_,rfl,j5 _,by simp[icΦ,upd]⟩
  ·have f1_:=hfree 1 kr0;simp only[icΦ,got]at f1_;simp[go_sem]at f1_;unfold Oper.wp;simp[go_sem,execOp,Act.eval,↓IntWalk.iteOmega,f1_];exact⟨_,rfl,j5 _,by simp[icΦ,upd]⟩
  ·have f7_:=hfree 7 kr0;simp only[icΦ,got]at f7_;simp[go_sem]at f7_;unfold Oper.wp;simp[go_sem,execOp,Act.eval,↓IntWalk.iteOmega,f7_];exact⟨_,rfl,j5 _,by simp[icΦ,upd]⟩
  ·have d1:=hdeep 1 kr0;have d2:=hdeep 2 kr0;simp only[icΦ,got]at d1 d2;unfold Oper.wp;simp[go_sem,execOp,Act.eval,↓IntWalk.iteOmega,d1,d2,iw1];exact⟨_,rfl,j5 _,by simp[icΦ,upd]⟩
  ·have d0:=hdeep 0 kr0;have d3:=hdeep 3 kr0;simp only[icΦ,got]at d0 d3;unfold Oper.wp;simp[go_sem,execOp,Act.eval,↓IntWalk.iteOmega,d0,d3,k1,k2,k3,k4,k5];exact⟨_,rfl,j5 _,by simp[icΦ,upd]⟩
  ·have f0_:=hfree 0 kr0;simp only[icΦ,got]at f0_;simp[go_sem]at f0_;unfold Oper.wp;simp[go_sem,execOp,Act.eval,↓IntWalk.iteOmega,f0_];exact⟨_,rfl,j5 _,by simp[icΦ,upd]⟩
  ·have f1_:=hfree 1 kr0;simp only[icΦ,got]at f1_;simp[go_sem]at f1_;unfold Oper.wp;simp[go_sem,execOp,Act.eval,↓IntWalk.iteOmega,f1_];exact⟨_,rfl,j5 _,by simp[icΦ,upd]⟩
  ·have d5:=hdeep 5 kr0;have d6:=hdeep 6 kr0;simp only[icΦ,got]at d5 d6;unfold Oper.wp;simp[go_sem,execOp,Act.eval,↓IntWalk.iteOmega,d5,d6,k6,i2,i3,k7];exact⟨_,rfl,j5 _,by simp[icΦ,upd]⟩
 case fin=>
  rintro t w' ⟨x2,rfl⟩ hΦ;have r0:=hΦ 0 dc0;have r1:=hΦ 1 dc0;have r2:=hΦ 2 dc0;have r3:=hΦ 3 dc0;have r4:=hΦ 4 dc0;have r5:=hΦ 5 dc0;have r6:=hΦ 6 dc0;have r7:=hΦ 7 dc0;simp only[icΦ]at r0 r1 r2 r3 r4 r5 r6 r7;simp only[zh,List.take_succ_cons,List.take_zero,List.drop_succ_cons,List.drop_zero,r0,r1,r2,r3,r4,r5,r6,r7];simp only[Act.put];simp only[List.setIfInBounds_toArray,List.set_cons_succ,List.set_cons_zero];clear hΦ r0 r1 r2 r3 r4 r5 r6 r7;have hBl:((l.drop i).flatMap f2).length=(n - i)*2:=by rw[zE Q1,List.length_drop,hl]
  have hcl:cur.toList.length=cap*2:=by simpa using hs
  have hA:cur.toList.take (i*2)=(l.take i).flatMap f2:=by rw[←aa6 Q1 l i om0,←ht,List.take_take,Nat.min_eq_left om0]
  obtain⟨hf1,hf2⟩:=a8F (V:=f2 (c,d)) (B:=(l.drop i).flatMap f2) (n:=n) hA hcl hroom om0 rfl hBl;have hb3:=i7 (w':=plus w x2) ⟨x2,rfl⟩ hb;have hq3:=i7 (w':=plus w x2) ⟨x2,rfl⟩ hq;have hw3:=(h.ex (w':=plus w x2) ⟨x2,rfl⟩).lay.drop Q1 (k:=i) om0;rw[Nat.zero_add]at hw3;have hmin:Nat.min (n+1 - i) (n - i)=n - i:=Nat.min_eq_right om0;have hmin2:Nat.min 1 (n+1 - i)=1:=Nat.min_eq_left om0;have hcp1:=Qn (P:=Tryz.prog) (w:=plus w x2) (g:=g) (cur:=cur) (o0:=(i+1)*2) (dn:=n - i) (dc:=cap - (i+1)) (q:=g) (off:=i*2) (sn:=n+1 - i) (sc:=cap - i) (t2:=88) (ty:=3) ad6 ((l.drop i).flatMap f2) (by rw[hmin,hBl]) (Zy ZV _) hb3 (ab2 hw3 om0) (by rw[hBl,hs];omega);rw[hmin]at hcp1;have hb4:=setRow_heap (plus w x2) g cur (cur.toList.take ((i+1)*2)++(l.drop i).flatMap f2++cur.toList.drop ((i+1)*2+((l.drop i).flatMap f2).length)).toArray 32 (0,0) hb3;have hg4:=(Qz (some g) ⟨x2,rfl⟩).trans (Qr (plus w x2) g (cur.toList.take ((i+1)*2)++(l.drop i).flatMap f2++cur.toList.drop ((i+1)*2+((l.drop i).flatMap f2).length)).toArray);have hq4:((plus w x2).setRow g (cur.toList.take ((i+1)*2)++(l.drop i).flatMap f2++cur.toList.drop ((i+1)*2+((l.drop i).flatMap f2).length)).toArray).heap[q]?=_:=((Qr (plus w x2) g (cur.toList.take ((i+1)*2)++(l.drop i).flatMap f2++cur.toList.drop ((i+1)*2+((l.drop i).flatMap f2).length)).toArray).block q (qi hq3) (fun e=>hne (by cases e;rfl))).trans hq3;have hX1l:(cur.toList.take ((i+1)*2)++(l.drop i).flatMap f2++cur.toList.drop ((i+1)*2+((l.drop i).flatMap f2).length)).length=cap*2:=by
   simp only[List.length_append,List.length_take,List.length_drop,hBl];omega
  generalize cur.toList.take ((i+1)*2)++(l.drop i).flatMap f2++cur.toList.drop ((i+1)*2+((l.drop i).flatMap f2).length)=X1 at*;generalize (plus w x2).setRow g X1.toArray=W2 at*;clear hA;have hcp2:=Qn (P:=Tryz.prog) (w:=W2) (g:=g) (cur:=X1.toArray) (o0:=i*2) (dn:=n+1 - i) (dc:=cap - i) (q:=q) (off:=0) (sn:=1) (sc:=cq) (t2:=88) (ty:=3) ad6 (f2 (c,d)) (by rw[hmin2];rfl) (ZV (c,d)) hb4 (fun j u hu=>ab2 (Zc hq4) dc0 j u (by simpa using hu)) (by show i*2+2≤X1.toArray.size;rw[List.size_toArray];omega);rw[hmin2]at hcp2;have hb5:=setRow_heap W2 g X1.toArray (X1.take (i*2)++f2 (c,d)++X1.drop (i*2+(f2 (c,d)).length)).toArray 32 (0,0) hb4;have hg5:=hg4.trans (Qr W2 g (X1.take (i*2)++f2 (c,d)++X1.drop (i*2+(f2 (c,d)).length)).toArray);simp only at hcp2;generalize X1.take (i*2)++f2 (c,d)++X1.drop (i*2+(f2 (c,d)).length)=X2 at*;generalize W2.setRow g X2.toArray=W3 at*;go_wp2;go_ret;exact⟨some ⟨g,0,none⟩,cap,rfl,hg5,a06 (by rw[a2a om0,hl]) Q1 hb5 hTg hroom hmx (by rw[List.size_toArray];exact hf2) (by rw[a2L];exact hf1)⟩
theorem aB7(T w:World)(ao:Option Addr)(n cap:Nat)(l:List (Int × Int))(i q cq:Nat)(c d:Int)(hT:∃y,w=plus T y)(h:Own 32 2 f2 T w ao n cap l)(hn:n≤1000)(hi:i≤n)(hq:w.heap[q]?=some (.cells #[.int .i64 c,.int .i64 d] 32))(hne:∀a,ao=some a→a.block≠q):
  Calls Tryz.prog 163 #[.slice ao n cap,.int .i64 (i:Int),.slice (some ⟨q,0,none⟩) 1 cq] w fun e w'=>a8A T w ao n cap (put l i (c,d)) e w':=by
 cases ao with
 |none=>
  obtain⟨rfl,rfl⟩:=h.none_zero rfl;obtain rfl:i=0:=om0;obtain rfl:l=[]:=List.eq_nil_of_length_eq_zero h.1;exact aA0 T w q cq c d hT hq
 |some a=>
  obtain⟨g,rfl⟩:∃g,a=⟨g,0,none⟩:=by
   rcases h.2.2 with⟨h1,_⟩|⟨k,cp,cu,h1,_⟩
   ·simp at h1
   ·simp only[Value.slice.injEq,Option.some.injEq]at h1;exact⟨k,h1.1⟩
  have hl:=h.1;by_cases e:i=n
  ·subst e;have hp:put l i (c,d)=l++[(c,d)]:=by rw[put,List.take_of_length_le om0,List.drop_eq_nil_of_le om0]
   rw[hp];exact aC2 T w g i cap l q cq c d hT h hn hq
  ·by_cases hr:n+1≤cap
   ·exact aC1 T w g n cap l i q cq c d h hn om0 hr hq (fun e2=>hne _ rfl e2.symm)
   ·have hcap:=h.cap_le;obtain rfl:cap=n:=om0;exact aA7 T w g cap l i q cq c d hT h hn om0 hq
end
/- What nodes.Link gives. -/
section
open Go.Maps Go.RowKit Go.ChangeShapes Go.WideShapes Go.ChangeAt
def lnS (i:Nat):List Nat:=match i with|0=>[49]|1=>[50]|2=>[51]|3=>[52]|4=>[53]|5=>[54]|6=>[55]|7=>[56]|8=>[57]|9=>[58]|10=>[59]|11=>[60]|12=>[61]|13=>[62]|14=>[63]|_=>[]
def lnΦ (T:World) (gq:Option Nat) (pl kb kn kc ph k:Nat) (ra:Option Addr) (rn rc p:Nat) (c d:Int) (l:List (Int × Int)) (i:Nat) (t:Nat→Value) (D:Nat→Bool) (w':World):Prop:=match i with
 |0=>t 49=.pointer (some ⟨pl,1,none⟩)
 |1=>t 50=.slice (some ⟨kb,0,none⟩) kn kc
 |2=>t 51=.pointer (some ⟨ph,0,none⟩)
 |3=>t 52=.int .i64 (k:Int)
 |4=>t 53=.pointer (some ⟨pl,1,none⟩)
 |5=>t 54=.slice (some ⟨kb,0,none⟩) kn kc
 |6=>t 55=.pointer (some ⟨ph,0,none⟩)
 |7=>t 56=.int .i64 (k:Int)
 |8=>t 57=.pointer (some ⟨kb,k,none⟩)
 |9=>t 58=.slice ra rn rc
 |10=>t 59=.int .i64 (p:Int)
 |11=>t 60=.agg #[.int .i64 c,.int .i64 d]
 |12=>∃q,t 61=.slice (some ⟨q,0,none⟩) 1 1∧w'.heap[q]?=some (.cells #[.int .i64 c,.int .i64 d] 32)∧some q≠gq
 |13=>∃ao' cap',t 62=.slice ao' (rn+1) cap'∧Own 32 2 f2 T w' ao' (rn+1) cap' (put l p (c,d))∧D 13=true
 |14=>t 63=.pointer (some ⟨kb,k,none⟩)
 |_=>True
theorem a5C(T:World)(gq:Option Nat)(pl kb kn kc ph k:Nat)(ra:Option Addr)(rn rc p:Nat)(c d:Int)(l:List (Int × Int)):∀i t t' D w D' w',lnΦ T gq pl kb kn kc ph k ra rn rc p c d l i t D w→(∀s∈lnS i,t' s=t s)→ap4 13 gq D w D' w'→lnΦ T gq pl kb kn kc ph k ra rn rc p c d l i t' D' w':=by
 intro i t t' D w D' w' h hs' ht
 match i with
 |0=>exact(hs' 49 dc0).trans h
 |1=>exact(hs' 50 dc0).trans h
 |2=>exact(hs' 51 dc0).trans h
 |3=>exact(hs' 52 dc0).trans h
 |4=>exact(hs' 53 dc0).trans h
 |5=>exact(hs' 54 dc0).trans h
 |6=>exact(hs' 55 dc0).trans h
 |7=>exact(hs' 56 dc0).trans h
 |8=>exact(hs' 57 dc0).trans h
 |9=>exact(hs' 58 dc0).trans h
 |10=>exact(hs' 59 dc0).trans h
 |11=>exact(hs' 60 dc0).trans h
 |12=>obtain⟨q,e,hb,hn⟩:=h;exact⟨q,(hs' 61 dc0).trans e,qI ht hn hb,hn⟩
 |13=>obtain⟨x,y,e,o,hd⟩:=h;exact⟨x,y,(hs' 62 dc0).trans e,ay6 o ht hd,ht.mono hd⟩
 |14=>exact(hs' 63 dc0).trans h
 |i+15=>trivial
def lkS (i:Nat):List Nat:=match i with|0=>[40]|1=>[41]|2=>[42]|3=>[43]|4=>[44]|_=>[]
def lkΦ (W:World) (ao:Option Addr) (n cap:Nat) (ko:Option Addr) (kn kcap:Nat) (hs:List RH) (gr:Gr) (f1 f2 t1 t2:Int) (i:Nat) (t:Nat→Value) (w':World):Prop:=match i with
 |0=>t 40=.agg #[.slice ao n cap,.slice ko kn kcap]
 |1=>∃p3 p4 p1 b,t 41=.func (.func 170) #[] #[.pointer (some ⟨p3,0,none⟩),.pointer (some ⟨p4,0,none⟩)]∧Env w' p3 p4 p1 b ao n cap ko kn kcap hs gr∧W.heap.size≤b∧∃es c,w'.heap[b]?=some (.map es c)
 |2=>t 42=.agg #[.int .i64 f1,.int .i64 f2]
 |3=>∃q,t 43=.slice (some ⟨q,0,none⟩) 1 1∧w'.heap[q]?=some (.cells #[.int .i64 f1,.int .i64 f2] 32)
 |4=>t 44=.agg #[.int .i64 t1,.int .i64 t2]
 |_=>True
theorem a2Z(W:World)(ao:Option Addr)(n cap:Nat)(ko:Option Addr)(kn kcap:Nat)(hs:List RH)(gr:Gr)(f1 f2 t1 t2:Int):∀i t t' w' x,lkΦ W ao n cap ko kn kcap hs gr f1 f2 t1 t2 i t w'→(∀s∈lkS i,t' s=t s)→lkΦ W ao n cap ko kn kcap hs gr f1 f2 t1 t2 i t' (plus w' x):=by
 intro i t t' w' x h hs'
 match i with
 |0=>exact(hs' 40 dc0).trans h
 |1=>obtain⟨p3,p4,p1,b,e,hE,hb,hm⟩:=h;exact⟨p3,p4,p1,b,(hs' 41 dc0).trans e,hE.grown (O7 _ ⟨x,rfl⟩) hm,hb,ao0 hm ⟨x,rfl⟩⟩
 |2=>exact(hs' 42 dc0).trans h
 |3=>obtain⟨q,e,hq⟩:=h;exact⟨q,(hs' 43 dc0).trans e,i7 ⟨x,rfl⟩ hq⟩
 |4=>exact(hs' 44 dc0).trans h
 |i+5=>trivial
theorem a0o{α:Type}{f:α→List Value}{T w:World}{ao:Option Addr}{n cap c:Nat}{l:List α}{e:TypeId}(h:Own e c f T w ao n cap l):∀q,Value.ownBlock (.slice ao n cap)=some q→q<w.heap.size∧T.heap.size≤q∧ao=some ⟨q,0,none⟩∧∃cur,w.heap[q]?=some (.cells cur e):=by
 intro q hq;rcases h.2.2 with⟨h1,_⟩|⟨k,cp,cu,h1,h2,h3,_⟩
 ·simp only[Value.slice.injEq]at h1;rw[h1.1]at hq;cases hq
 ·simp only[Value.slice.injEq]at h1;rw[h1.1]at hq;simp only[Value.ownBlock,Option.some.injEq]at hq;subst hq;exact⟨qi h3,h2,h1.1,cu,h3⟩
theorem a1z(ao:Option Addr)(n cap:Nat)(ko:Option Addr)(kn kcap:Nat)(hs:List RH)(gr:Gr)(s g x1 x2 pos:Int)(w:World)(hG:QL w ao n ko kn hs gr):
  Calls Tryz.prog 122 #[.agg #[.slice ao n cap,.slice ko kn kcap],.agg #[.int .i64 s,.int .i64 g],.agg #[.int .i64 x1,.int .i64 x2],.int .i64 pos] w fun e w'=>at4 w (zM gr (s,g) (x1,x2) pos) (D5 gr (s,g) (x1,x2) pos) e w':=by
 have hlen:=hG.kl;have hkh:=hG.kh.len;have hsl:=hG.sl.len;have m2:=hG.n2;rcases ak3 gr (s,g) (x1,x2)with he|he|he;rotate_left
 ·have hu:D5 gr (s,g) (x1,x2) pos=8:=by rw[D5,he,if_neg dc0]
  rw[hu,show zM gr (s,g) (x1,x2) pos=P4 by rw[zM,hu];rfl];go_enter Tryz.func122,Tryz.ntmps122;go_wp2_with (go_at_call 162;refine pm0 (ZE he (hG.ex sk0) (by simp only[qe];simp[go_sem,↓IntWalk.iteOmega])) fun nx=>?_);exact bodyPost_ret (v:=.tuple #[.agg #[.slice none 0 0,.slice none 0 0],.int .i64 8]) (by simp[results,Tryz.results122,go_sem,↓IntWalk.iteOmega]) rfl ⟨none,0,none,0,[],rfl,sk0,zK⟩
 ·have hu:D5 gr (s,g) (x1,x2) pos=50:=by rw[D5,he,if_neg dc0]
  rw[hu,show zM gr (s,g) (x1,x2) pos=P4 by rw[zM,hu];rfl];go_enter Tryz.func122,Tryz.ntmps122;go_wp2_with (go_at_call 162;refine pm0 (ZE he (hG.ex sk0) (by simp only[qe];simp[go_sem,↓IntWalk.iteOmega])) fun nx=>?_);exact bodyPost_ret (v:=.tuple #[.agg #[.slice none 0 0,.slice none 0 0],.int .i64 50]) (by simp[results,Tryz.results122,go_sem,↓IntWalk.iteOmega]) rfl ⟨none,0,none,0,[],rfl,sk0,zK⟩
 obtain⟨hok,hh,hh2⟩:=a1d he;have hl:=A8 hh;have hl2:=A8 hh2;simp only at hl hl2 hh hh2;obtain⟨_,h2,h3,_⟩:=zx hok;have hK:=Y7.of gr h2 h3;obtain⟨k,rfl⟩:∃k:Nat,s=(k:Int):=⟨s.toNat,om0⟩;obtain⟨j,rfl⟩:∃j:Nat,x1=(j:Int):=⟨x1.toNat,om0⟩;rw[Int.toNat_natCast]at hl hl2;have hkl:k<kn:=om0;have ik:(k:Int)<(kn:Int):=om0;obtain⟨kg,kf,rfl,hkg,hkc⟩:=hG.kh.some om0;have c1:=O9 hkh hkc hkl;have hrow:=hG.row k om0;have hrl:=hrow.len;have hn3:=hG.n3 k om0;have h16:=(Qk h3 (i:=k) om0).1;have hra:K0 gr ((k:Int),g)=nth [] gr.ks k:=by rw[K0];show nth [] gr.ks ((k:Int)).toNat=_;rw[Int.toNat_natCast]
 have hue:D5 gr ((k:Int),g) ((j:Int),x2) pos=if 0≤pos∧pos≤((nth dRH hs k).n:Int)then(if (nth dRH hs k).n<16 then(if ab7 gr ((j:Int),x2) ((k:Int),g)=true then 60 else 0)else 9)else 2:=by
  rw[D5,he,if_pos rfl,hra,hrl];by_cases q2:(nth dRH hs k).n<16
  ·have q3:¬16≤(nth dRH hs k).n:=om0;rw[if_neg q3,if_pos q2]
  ·have q3:16≤(nth dRH hs k).n:=om0;rw[if_pos q3,if_neg q2]
 by_cases hp0:pos<0
 ·rw[if_neg om0]at hue;rw[hue,show zM gr ((k:Int),g) ((j:Int),x2) pos=P4 by rw[zM,hue];rfl];go_enter Tryz.func122,Tryz.ntmps122;go_wp2_with (go_at_call 162;refine pm0 (ZE he (hG.ex sk0) (by simp only[qe];simp[go_sem,↓IntWalk.iteOmega])) fun nx=>?_);exact bodyPost_ret (v:=.tuple #[.agg #[.slice none 0 0,.slice none 0 0],.int .i64 2]) (by simp[results,Tryz.results122,go_sem,↓IntWalk.iteOmega]) rfl ⟨none,0,none,0,[],rfl,sk0,zK⟩
 have dp0:=decide_eq_false hp0;obtain⟨p,rfl⟩:∃p:Nat,pos=(p:Int):=⟨pos.toNat,om0⟩;by_cases hp1:(nth dRH hs k).n<p
 ·have ip1:((nth dRH hs k).n:Int)<(p:Int):=om0;rw[if_neg om0]at hue;rw[hue,show zM gr ((k:Int),g) ((j:Int),x2) p=P4 by rw[zM,hue];rfl];go_enter Tryz.func122,Tryz.ntmps122;go_wp2_with (go_at_call 162;refine pm0 (ZE he (hG.ex sk0) (by simp only[qe];simp[go_sem,↓IntWalk.iteOmega])) fun nx=>?_);exact bodyPost_ret (v:=.tuple #[.agg #[.slice none 0 0,.slice none 0 0],.int .i64 2]) (by simp[results,Tryz.results122,go_sem,↓IntWalk.iteOmega]) rfl ⟨none,0,none,0,[],rfl,sk0,zK⟩
 have ip1:¬((nth dRH hs k).n:Int)<(p:Int):=om0;have dp1:=decide_eq_false ip1;rw[if_pos om0]at hue;by_cases hp2:(nth dRH hs k).n<16;rotate_left
 ·have d16:(((nth dRH hs k).n:Int)==16)=true:=by rw[beq_iff_eq];omega
  rw[if_neg hp2]at hue;rw[hue,show zM gr ((k:Int),g) ((j:Int),x2) p=P4 by rw[zM,hue];rfl];go_enter Tryz.func122,Tryz.ntmps122;go_wp2_with (go_at_call 162;refine pm0 (ZE he (hG.ex sk0) (by simp only[qe];simp[go_sem,↓IntWalk.iteOmega])) fun nx=>?_);exact bodyPost_ret (v:=.tuple #[.agg #[.slice none 0 0,.slice none 0 0],.int .i64 9]) (by simp[results,Tryz.results122,go_sem,↓IntWalk.iteOmega]) rfl ⟨none,0,none,0,[],rfl,sk0,zK⟩
 have d16:(((nth dRH hs k).n:Int)==16)=false:=by rw[beq_eq_false_iff_ne];omega
 have n16:¬((nth dRH hs k).n:Int)=16:=om0;rw[if_pos hp2]at hue;have hab:a0A gr [((j:Int),x2)] ((k:Int),g)=ab7 gr ((j:Int),x2) ((k:Int),g):=by simp[a0A]
 cases hAB:a0A gr [((j:Int),x2)] ((k:Int),g);rotate_left
 ·rw[←hab,hAB,if_pos rfl]at hue;rw[hue,show zM gr ((k:Int),g) ((j:Int),x2) p=P4 by rw[zM,hue];rfl];go_enter Tryz.func122,Tryz.ntmps122;go_upto_region 9 with(go_at_call 162;refine pm0 (ZE he (hG.ex sk0) (by simp only[qe];simp[go_sem,↓IntWalk.iteOmega])) fun nx=>?_);refine zJ 5 lkS (lkΦ (plus (((((w.alloc (.cells #[.slice ao n cap,.slice (some ⟨kg,kf,none⟩) kn kcap] 27)).alloc (.cells #[.int .i64 (k:Int),.int .i64 g] 32)).alloc (.cells #[.int .i64 (j:Int),.int .i64 x2] 32)).alloc (.cells #[.slice none 0 0,.slice none 0 0] 27)).alloc (.cells #[.int .i64 (k:Int),.int .i64 g,.int .i64 (j:Int),.int .i64 x2] 32)) nx) ao n cap (some ⟨kg,kf,none⟩) kn kcap hs gr (j:Int) x2 (k:Int) g) kr0 kr0 dc0 (a2Z (plus (((((w.alloc (.cells #[.slice ao n cap,.slice (some ⟨kg,kf,none⟩) kn kcap] 27)).alloc (.cells #[.int .i64 (k:Int),.int .i64 g] 32)).alloc (.cells #[.int .i64 (j:Int),.int .i64 x2] 32)).alloc (.cells #[.slice none 0 0,.slice none 0 0] 27)).alloc (.cells #[.int .i64 (k:Int),.int .i64 g,.int .i64 (j:Int),.int .i64 x2] 32)) nx) ao n cap (some ⟨kg,kf,none⟩) kn kcap hs gr (j:Int) x2 (k:Int) g) ?steps ?fin
  case steps=>
   refine⟨?_,?_,?_,?_,?_,trivial⟩<;>intro a w' hg hfree hdeep<;>obtain⟨x,rfl⟩:=hg
   ·have f4_:=hfree 4 kr0;simp only[lkΦ,got]at f4_;simp[go_sem]at f4_;unfold Oper.wp;simp[go_sem,execOp,Act.eval,↓IntWalk.iteOmega,f4_];exact⟨_,rfl,j5 _,by simp[lkΦ,upd]⟩
   ·have d0:=hdeep 0 kr0;simp only[lkΦ,got]at d0;unfold Oper.wp;simp[go_sem,execOp,Act.eval,↓IntWalk.iteOmega,d0];refine(W9 ao n cap _ kn kcap hs gr _ (hG.ex sk0)).mono ?_;rintro e w1 ⟨p3,p4,p1,b,rfl,hw1,hE1,hb1,hm1⟩;exact⟨_,rfl,hw1,p3,p4,p1,b,by simp[upd],hE1,by rw[qn]at hb1;omega,hm1⟩
   ·have f6_:=hfree 6 kr0;simp only[lkΦ,got]at f6_;simp[go_sem]at f6_;unfold Oper.wp;simp[go_sem,execOp,Act.eval,↓IntWalk.iteOmega,f6_];exact⟨_,rfl,j5 _,by simp[lkΦ,upd]⟩
   ·have d2:=hdeep 2 kr0;simp only[lkΦ,got]at d2;simp at d2;unfold Oper.wp;simp[go_sem,execOp,Act.eval,↓IntWalk.iteOmega,d2];exact⟨_,rfl,qE (j5 _),_,by simp[upd];rfl,by rw[qe,if_pos (by simp[go_sem])]⟩
   ·have f5_:=hfree 5 kr0;simp only[lkΦ,got]at f5_;simp[go_sem]at f5_;unfold Oper.wp;simp[go_sem,execOp,Act.eval,↓IntWalk.iteOmega,f5_];exact⟨_,rfl,j5 _,by simp[lkΦ,upd]⟩
  case fin=>
   rintro t w' hg hΦ;have r0:=hΦ 0 dc0;obtain⟨p3,p4,p1,b,r1,hE,hb,hm⟩:=hΦ 1 dc0;have r2:=hΦ 2 dc0;obtain⟨q,r3,hq⟩:=hΦ 3 dc0;have r4:=hΦ 4 dc0;simp only[lkΦ]at r0 r2 r4;simp only[zh,List.take_succ_cons,List.take_zero,List.drop_succ_cons,List.drop_zero,r0,r1,r2,r3,r4];simp only[Act.put];simp only[List.setIfInBounds_toArray,List.set_cons_succ,List.set_cons_zero];clear hΦ r0 r1 r2 r3 r4;have hx9:∃y,(plus (((((w.alloc (.cells #[.slice ao n cap,.slice (some ⟨kg,kf,none⟩) kn kcap] 27)).alloc (.cells #[.int .i64 (k:Int),.int .i64 g] 32)).alloc (.cells #[.int .i64 (j:Int),.int .i64 x2] 32)).alloc (.cells #[.slice none 0 0,.slice none 0 0] 27)).alloc (.cells #[.int .i64 (k:Int),.int .i64 g,.int .i64 (j:Int),.int .i64 x2] 32)) nx)=plus w y:=sk0;have hb0:w.heap.size≤b:=by have:=hb;simp[go_sem]at this ⊢;omega
   have bR9:w'.heap[w.heap.size+1+1+1]?=some (.cells #[.slice none 0 0,.slice none 0 0] 27):=i7 hg (i7 (zt (j5 _)) (by simp only[qe];simp[go_sem,↓IntWalk.iteOmega]));refine zo (fun w0=>w0.heap[w.heap.size+1+1+1]?=some (.cells #[.slice none 0 0,.slice none 0 0] 27)∧(∃y,w0=plus w y)∧Env w0 p3 p4 p1 b ao n cap (some ⟨kg,kf,none⟩) kn kcap hs gr∧(∃es c,w0.heap[b]?=some (.map es c))∧w0.heap[q]?=some (.cells #[.int .i64 (j:Int),.int .i64 x2] 32)) ⟨bR9,i9 hx9 hg,hE,hm,hq⟩ ?_;clear hE hm hq bR9 hx9 hg hb;rintro w0 ⟨bR0,hx0,hE,hm,hq⟩;go_upto_region 10 with(go_at_call 170;refine(a4t p3 p4 p1 b ao n cap _ kn kcap hs gr hK k g hh _ _ _ [((j:Int),x2)] _ hE hm (Zc hq) dc0 (fun x hx=>by rw[List.mem_singleton]at hx;rw[hx];exact hh2)).mono ?_;rintro e w4 ⟨rfl,hg4,hm4⟩;rw[hAB]);have bR4:=F0 hg4 hm bR0;have hx4:=ai6 hx0 hg4 hb0;have s0:=i6 (i:=0) bR4 rfl;have s1:=i6 (i:=1) bR4 rfl;have y0:=j9 (i:=0) bR4;have y1:=j9 (i:=1) bR4;clear hg4 hm4 bR0 hx0 hE hm hq;have bR5:=j7 (i:=1) (u:=.slice none 0 0) (j7 (i:=0) (u:=.slice none 0 0) bR4);have hx5:=qb (i:=1) (u:=.slice none 0 0) (g:=w.heap.size+1+1+1) (qb (i:=0) (u:=.slice none 0 0) (g:=w.heap.size+1+1+1) hx4 om0) om0;go_wp2;generalize (w4.setCell ⟨w.heap.size+1+1+1,0,none⟩ (.slice none 0 0)).setCell ⟨w.heap.size+1+1+1,1,none⟩ (.slice none 0 0)=w5 at*;have t0:=i6 (i:=0) bR5 rfl;have t1:=i6 (i:=1) bR5 rfl;exact bodyPost_ret (v:=.tuple #[.agg #[.slice none 0 0,.slice none 0 0],.int .i64 60]) (by simp[results,Tryz.results122,go_sem,t0,t1]) rfl ⟨none,0,none,0,[],rfl,hx5,zK⟩
 rw[←hab,hAB,if_neg dc0]at hue;have hres:zM gr ((k:Int),g) ((j:Int),x2) p=⟨gr.sl,gr.ks.set k (put (nth [] gr.ks k) p ((j:Int),x2))⟩:=by
  rw[zM,hue,if_pos rfl,ae9,hra];show Gr.mk gr.sl (gr.ks.set ((k:Int)).toNat (put (nth [] gr.ks k) ((p:Int)).toNat ((j:Int),x2)))=_;rw[Int.toNat_natCast,Int.toNat_natCast]
 rw[hue,hres];go_enter Tryz.func122,Tryz.ntmps122;go_upto_region 9 with(go_at_call 162;refine pm0 (ZE he (hG.ex sk0) (by simp only[qe];simp[go_sem,↓IntWalk.iteOmega])) fun nx=>?_);refine zJ 5 lkS (lkΦ (plus (((((w.alloc (.cells #[.slice ao n cap,.slice (some ⟨kg,kf,none⟩) kn kcap] 27)).alloc (.cells #[.int .i64 (k:Int),.int .i64 g] 32)).alloc (.cells #[.int .i64 (j:Int),.int .i64 x2] 32)).alloc (.cells #[.slice none 0 0,.slice none 0 0] 27)).alloc (.cells #[.int .i64 (k:Int),.int .i64 g,.int .i64 (j:Int),.int .i64 x2] 32)) nx) ao n cap (some ⟨kg,kf,none⟩) kn kcap hs gr (j:Int) x2 (k:Int) g) kr0 kr0 dc0 (a2Z (plus (((((w.alloc (.cells #[.slice ao n cap,.slice (some ⟨kg,kf,none⟩) kn kcap] 27)).alloc (.cells #[.int .i64 (k:Int),.int .i64 g] 32)).alloc (.cells #[.int .i64 (j:Int),.int .i64 x2] 32)).alloc (.cells #[.slice none 0 0,.slice none 0 0] 27)).alloc (.cells #[.int .i64 (k:Int),.int .i64 g,.int .i64 (j:Int),.int .i64 x2] 32)) nx) ao n cap (some ⟨kg,kf,none⟩) kn kcap hs gr (j:Int) x2 (k:Int) g) ?steps ?fin
 case steps=>
  refine⟨?_,?_,?_,?_,?_,trivial⟩<;>intro a w' hg hfree hdeep<;>obtain⟨x,rfl⟩:=hg
  ·have f4_:=hfree 4 kr0;simp only[lkΦ,got]at f4_;simp[go_sem]at f4_;unfold Oper.wp;simp[go_sem,execOp,Act.eval,↓IntWalk.iteOmega,f4_];exact⟨_,rfl,j5 _,by simp[lkΦ,upd]⟩
  ·have d0:=hdeep 0 kr0;simp only[lkΦ,got]at d0;unfold Oper.wp;simp[go_sem,execOp,Act.eval,↓IntWalk.iteOmega,d0];refine(W9 ao n cap _ kn kcap hs gr _ (hG.ex sk0)).mono ?_;rintro e w1 ⟨p3,p4,p1,b,rfl,hw1,hE1,hb1,hm1⟩;exact⟨_,rfl,hw1,p3,p4,p1,b,by simp[upd],hE1,by rw[qn]at hb1;omega,hm1⟩
  ·have f6_:=hfree 6 kr0;simp only[lkΦ,got]at f6_;simp[go_sem]at f6_;unfold Oper.wp;simp[go_sem,execOp,Act.eval,↓IntWalk.iteOmega,f6_];exact⟨_,rfl,j5 _,by simp[lkΦ,upd]⟩
  ·have d2:=hdeep 2 kr0;simp only[lkΦ,got]at d2;simp at d2;unfold Oper.wp;simp[go_sem,execOp,Act.eval,↓IntWalk.iteOmega,d2];exact⟨_,rfl,qE (j5 _),_,by simp[upd];rfl,by rw[qe,if_pos (by simp[go_sem])]⟩
  ·have f5_:=hfree 5 kr0;simp only[lkΦ,got]at f5_;simp[go_sem]at f5_;unfold Oper.wp;simp[go_sem,execOp,Act.eval,↓IntWalk.iteOmega,f5_];exact⟨_,rfl,j5 _,by simp[lkΦ,upd]⟩
 case fin=>
  rintro t w' hg hΦ;have r0:=hΦ 0 dc0;obtain⟨p3,p4,p1,b,r1,hE,hb,hm⟩:=hΦ 1 dc0;have r2:=hΦ 2 dc0;obtain⟨q,r3,hq⟩:=hΦ 3 dc0;have r4:=hΦ 4 dc0;simp only[lkΦ]at r0 r2 r4;simp only[zh,List.take_succ_cons,List.take_zero,List.drop_succ_cons,List.drop_zero,r0,r1,r2,r3,r4];simp only[Act.put];simp only[List.setIfInBounds_toArray,List.set_cons_succ,List.set_cons_zero];clear hΦ r0 r1 r2 r3 r4;have hx9:∃y,(plus (((((w.alloc (.cells #[.slice ao n cap,.slice (some ⟨kg,kf,none⟩) kn kcap] 27)).alloc (.cells #[.int .i64 (k:Int),.int .i64 g] 32)).alloc (.cells #[.int .i64 (j:Int),.int .i64 x2] 32)).alloc (.cells #[.slice none 0 0,.slice none 0 0] 27)).alloc (.cells #[.int .i64 (k:Int),.int .i64 g,.int .i64 (j:Int),.int .i64 x2] 32)) nx)=plus w y:=sk0;have hb0:w.heap.size≤b:=by have:=hb;simp[go_sem]at this ⊢;omega
  have zW:w.heap.size+1+1+1+1+1≤((plus (((((w.alloc (.cells #[.slice ao n cap,.slice (some ⟨kg,kf,none⟩) kn kcap] 27)).alloc (.cells #[.int .i64 (k:Int),.int .i64 g] 32)).alloc (.cells #[.int .i64 (j:Int),.int .i64 x2] 32)).alloc (.cells #[.slice none 0 0,.slice none 0 0] 27)).alloc (.cells #[.int .i64 (k:Int),.int .i64 g,.int .i64 (j:Int),.int .i64 x2] 32)) nx)).heap.size:=by rw[qn];simp[go_sem]
  have zw:=qu hg;have bR9:w'.heap[w.heap.size+1+1+1]?=some (.cells #[.slice none 0 0,.slice none 0 0] 27):=i7 hg (i7 (zt (j5 _)) (by simp only[qe];simp[go_sem,↓IntWalk.iteOmega]));have bP9:w'.heap[w.heap.size+1]?=some (.cells #[.int .i64 (k:Int),.int .i64 g] 32):=i7 hg (i7 (zt (j5 _)) (by simp only[qe];simp[go_sem,↓IntWalk.iteOmega]));have bC9:w'.heap[w.heap.size+1+1]?=some (.cells #[.int .i64 (j:Int),.int .i64 x2] 32):=i7 hg (i7 (zt (j5 _)) (by simp only[qe];simp[go_sem,↓IntWalk.iteOmega]));have bG9:w'.heap[w.heap.size]?=some (.cells #[.slice ao n cap,.slice (some ⟨kg,kf,none⟩) kn kcap] 27):=i7 hg (i7 (zt (j5 _)) (by simp only[qe];simp[go_sem,↓IntWalk.iteOmega]));go_upto_region 11 with(go_at_call 170;refine(a4t p3 p4 p1 b ao n cap _ kn kcap hs gr hK k g hh _ _ _ [((j:Int),x2)] _ hE hm (Zc hq) dc0 (fun x hx=>by rw[List.mem_singleton]at hx;rw[hx];exact hh2)).mono ?_;rintro e w4 ⟨rfl,hg4,hm4⟩;rw[hAB]);have bR4:=F0 hg4 hm bR9;have bP4:=F0 hg4 hm bP9;have bC4:=F0 hg4 hm bC9;have bG4:=F0 hg4 hm bG9;have hx4:=ai6 (i9 hx9 hg) hg4 hb0;have z4:w.heap.size+1+1+1+1+1≤w4.heap.size:=by have:=hg4.size;omega
  clear hg4 hm4 bR9 bP9 bC9 bG9 hx9 hE hm hq hg hb zW zw;have g0:=i6 (i:=0) bG4 rfl;have g1:=i6 (i:=1) bG4 rfl;have lg4:=qi bG4;go_upto_region 12 with(go_at_call 39;refine(Za _ _ _ _ _ _ hs gr _ (hG.ex hx4)).mono ?_;rintro e w1 ⟨a1,c1',ka,kc,hs1,rfl,hw1,og,hap⟩);have hx2:∃y,w1.alloc (.cells #[.slice a1 n c1',.slice ka kn kc] 27)=plus w y:=sn0;have hx2T:∃y,w1.alloc (.cells #[.slice a1 n c1',.slice ka kn kc] 27)=plus w4 y:=qE hw1;have z1:=qu hw1;have bL0:(w1.alloc (.cells #[.slice a1 n c1',.slice ka kn kc] 27)).heap[w1.heap.size]?=some (.cells #[.slice a1 n c1',.slice ka kn kc] 27):=by rw[qe,if_pos rfl]
  have bP2:=i7 (w':=w1.alloc (.cells #[.slice a1 n c1',.slice ka kn kc] 27)) hx2T bP4;have bC2:=i7 (w':=w1.alloc (.cells #[.slice a1 n c1',.slice ka kn kc] 27)) hx2T bC4;have bR0:=i7 (w':=w1.alloc (.cells #[.slice a1 n c1',.slice ka kn kc] 27)) hx2T bR4;have og2:=(og.ex (qE (o:=(.cells #[.slice a1 n c1',.slice ka kn kc] 27)) (j5 w1)));clear og hw1 bR4 bP4 bC4 bG4 g0 g1 hx4;generalize w1.alloc (.cells #[.slice a1 n c1',.slice ka kn kc] 27)=w2 at*;obtain⟨kb,cu,rfl,hkb,hkbb,_⟩:=og2.kh.blk om0;have okh:=og2.kh;have hl2:=okh.1;have orow0:=og2.row k om0;have hrn:(nth dRH hs1 k).n=(nth dRH hs k).n:=orow0.1.symm.trans hrl;generalize hre:nth dRH hs1 k=r at*;obtain⟨ra,rn,rc⟩:=r;simp only at hrn orow0;subst hrn;have orow:=orow0;have hgq:∀q,Value.ownBlock (.slice ra (nth dRH hs k).n rc)=some q→q<w2.heap.size∧w4.heap.size≤q∧ra=some ⟨q,0,none⟩∧∃cur,w2.heap[q]?=some (.cells cur 32):=a0o orow;have nL:some w1.heap.size≠Value.ownBlock (.slice ra (nth dRH hs k).n rc):=fun e=>by obtain⟨_,_,_,cur,hb⟩:=hgq _ e.symm;rw[hb]at bL0;cases bL0
  have nH:some (w.heap.size+1)≠Value.ownBlock (.slice ra (nth dRH hs k).n rc):=fun e=>by have:=hgq _ e.symm;omega
  have nC:some (w.heap.size+1+1)≠Value.ownBlock (.slice ra (nth dRH hs k).n rc):=fun e=>by have:=hgq _ e.symm;omega
  have nR:some (w.heap.size+1+1+1)≠Value.ownBlock (.slice ra (nth dRH hs k).n rc):=fun e=>by have:=hgq _ e.symm;omega
  have nK:some kb≠Value.ownBlock (.slice ra (nth dRH hs k).n rc):=fun e=>by obtain⟨_,_,_,cur,hb⟩:=hgq _ e.symm;rw[hb]at hkbb;cases hkbb
  refine zR 15 lnS (lnΦ w4 (Value.ownBlock (.slice ra (nth dRH hs k).n rc)) w1.heap.size kb kn kc (w.heap.size+1) k ra (nth dRH hs k).n rc p (j:Int) x2 (nth [] gr.ks k)) (ap4 13 (Value.ownBlock (.slice ra (nth dRH hs k).n rc))) S8 (Y6 _) kr0 kr0 dc0 (a5C w4 (Value.ownBlock (.slice ra (nth dRH hs k).n rc)) w1.heap.size kb kn kc (w.heap.size+1) k ra (nth dRH hs k).n rc p (j:Int) x2 (nth [] gr.ks k)) ?steps ?fin
  case steps=>
   refine⟨?_,?_,?_,?_,?_,?_,?_,?_,?_,?_,?_,?_,?_,?_,?_,trivial⟩<;>intro a D w' hg hfree hdeep hD
   ·have f12_:=hfree 12 kr0;simp only[lnΦ,got]at f12_;simp[go_sem]at f12_;unfold Oper.wp;simp[go_sem,execOp,Act.eval,↓IntWalk.iteOmega,f12_];exact⟨_,rfl,t7 (j5 _),by simp[lnΦ,upd]⟩
   ·have d0:=hdeep 0 kr0;simp only[lnΦ,got]at d0;simp[go_sem]at d0;have c1_:=i6 (i:=1) (qI hg (nL) bL0) rfl;unfold Oper.wp;simp[go_sem,execOp,Act.eval,↓IntWalk.iteOmega,d0,c1_];exact⟨_,rfl,t7 (j5 _),by simp[lnΦ,upd]⟩
   ·have f5_:=hfree 5 kr0;simp only[lnΦ,got]at f5_;simp[go_sem]at f5_;unfold Oper.wp;simp[go_sem,execOp,Act.eval,↓IntWalk.iteOmega,f5_];exact⟨_,rfl,t7 (j5 _),by simp[lnΦ,upd]⟩
   ·have d2:=hdeep 2 kr0;simp only[lnΦ,got]at d2;simp[go_sem]at d2;have c1_:=i6 (i:=0) (qI hg (nH) bP2) rfl;unfold Oper.wp;simp[go_sem,execOp,Act.eval,↓IntWalk.iteOmega,d2,c1_];exact⟨_,rfl,t7 (j5 _),by simp[lnΦ,upd]⟩
   ·have f12_:=hfree 12 kr0;simp only[lnΦ,got]at f12_;simp[go_sem]at f12_;unfold Oper.wp;simp[go_sem,execOp,Act.eval,↓IntWalk.iteOmega,f12_];exact⟨_,rfl,t7 (j5 _),by simp[lnΦ,upd]⟩
   ·have d4:=hdeep 4 kr0;simp only[lnΦ,got]at d4;simp[go_sem]at d4;have c1_:=i6 (i:=1) (qI hg (nL) bL0) rfl;unfold Oper.wp;simp[go_sem,execOp,Act.eval,↓IntWalk.iteOmega,d4,c1_];exact⟨_,rfl,t7 (j5 _),by simp[lnΦ,upd]⟩
   ·have f5_:=hfree 5 kr0;simp only[lnΦ,got]at f5_;simp[go_sem]at f5_;unfold Oper.wp;simp[go_sem,execOp,Act.eval,↓IntWalk.iteOmega,f5_];exact⟨_,rfl,t7 (j5 _),by simp[lnΦ,upd]⟩
   ·have d6:=hdeep 6 kr0;simp only[lnΦ,got]at d6;simp[go_sem]at d6;have c1_:=i6 (i:=0) (qI hg (nH) bP2) rfl;unfold Oper.wp;simp[go_sem,execOp,Act.eval,↓IntWalk.iteOmega,d6,c1_];exact⟨_,rfl,t7 (j5 _),by simp[lnΦ,upd]⟩
   ·have d5:=hdeep 5 kr0;have d7:=hdeep 7 kr0;simp only[lnΦ,got]at d5 d7;simp[go_sem]at d5 d7;unfold Oper.wp;simp[go_sem,execOp,Act.eval,↓IntWalk.iteOmega,d5,d7,ik];exact⟨_,rfl,t7 (j5 _),by simp[lnΦ,upd]⟩
   ·have d8:=hdeep 8 kr0;simp only[lnΦ,got]at d8;simp[go_sem]at d8;have ck:=V6 (Zi okh hg nK).lay hkl;rw[hre]at ck;unfold Oper.wp;simp[go_sem,execOp,Act.eval,↓IntWalk.iteOmega,d8,ck];exact⟨_,rfl,t7 (j5 _),by simp[lnΦ,upd]⟩
   ·have f3_:=hfree 3 kr0;simp only[lnΦ,got]at f3_;simp[go_sem]at f3_;unfold Oper.wp;simp[go_sem,execOp,Act.eval,↓IntWalk.iteOmega,f3_];exact⟨_,rfl,t7 (j5 _),by simp[lnΦ,upd]⟩
   ·have f6_:=hfree 6 kr0;simp only[lnΦ,got]at f6_;simp[go_sem]at f6_;have c1_:=i6 (i:=0) (qI hg (nC) bC2) rfl;have c2_:=i6 (i:=1) (qI hg (nC) bC2) rfl;unfold Oper.wp;simp[go_sem,execOp,Act.eval,↓IntWalk.iteOmega,f6_,c1_,c2_];exact⟨_,rfl,t7 (j5 _),by simp[lnΦ,upd]⟩
   ·have d11:=hdeep 11 kr0;simp only[lnΦ,got]at d11;simp[go_sem]at d11;unfold Oper.wp;simp[go_sem,execOp,Act.eval,↓IntWalk.iteOmega,d11];exact⟨_,rfl,t7 (qE (j5 _)),w'.heap.size,by simp[upd],by rw[qe,if_pos (by simp[go_sem])],fun e=>by have:=hgq _ e.symm;have:=hg.grow.size;omega⟩
   ·have d9:=hdeep 9 kr0;have d10:=hdeep 10 kr0;obtain⟨q,e12,hq,hqn⟩:∃q,got a 61=.slice (some ⟨q,0,none⟩) 1 1∧_:=hdeep 12 kr0;simp only[lnΦ,got]at d9 d10;simp[go_sem]at d9 d10;have g12:=e12;simp only[got]at g12;simp at g12;obtain⟨x,rfl⟩:=B7 hg hD;unfold Oper.wp;simp[go_sem,execOp,Act.eval,↓IntWalk.iteOmega,d9,d10,g12];refine(aB7 w4 _ ra _ rc (nth [] gr.ks k) p q 1 _ _ (zt hx2T) (orow.ex ⟨x,rfl⟩) om0 om0 hq (fun a_ ha e=>hqn (by rw[ha,←e];rfl))).mono ?_;rintro e w1' ⟨ao',cap',rfl,hg1,o1⟩;exact⟨_,rfl,ak7 hg1 hD,ao',cap',by simp[upd],o1,y9 13⟩
   ·have d1:=hdeep 1 kr0;have d3:=hdeep 3 kr0;simp only[lnΦ,got]at d1 d3;simp[go_sem]at d1 d3;unfold Oper.wp;simp[go_sem,execOp,Act.eval,↓IntWalk.iteOmega,d1,d3,ik];exact⟨_,rfl,t7 (j5 _),by simp[lnΦ,upd]⟩
  case fin=>
   rintro t D w9 hDa hg hΦ;have r0:=hΦ 0 dc0;have r1:=hΦ 1 dc0;have r2:=hΦ 2 dc0;have r3:=hΦ 3 dc0;have r4:=hΦ 4 dc0;have r5:=hΦ 5 dc0;have r6:=hΦ 6 dc0;have r7:=hΦ 7 dc0;have r8:=hΦ 8 dc0;have r9:=hΦ 9 dc0;have r10:=hΦ 10 dc0;have r11:=hΦ 11 dc0
   skip
   have r14:=hΦ 14 dc0;simp only[lnΦ]at r0 r1 r2 r3 r4 r5 r6 r7 r8 r9 r10 r11 r14;obtain⟨ao',cap',r13,o9,hD9⟩:=hΦ 13 dc0;obtain⟨qq,r12,_,_⟩:=hΦ 12 dc0;simp only[zh,List.take_succ_cons,List.take_zero,List.drop_succ_cons,List.drop_zero,r0,r1,r2,r3,r4,r5,r6,r7,r8,r9,r10,r11,r12,r13,r14];simp only[Act.put];simp only[List.setIfInBounds_toArray,List.set_cons_succ,List.set_cons_zero];clear hΦ r0 r1 r2 r3 r4 r5 r6 r7 r8 r9 r10 r11 r12 r13 r14;have bK9:=qI hg nK hkbb;have ck9:=V6 (Zi okh hg nK).lay hkl;have zk9:=j9 (i:=k) bK9;have lk9:=qi bK9;have og3:=og2.upd (r:=⟨ao',((nth dRH hs k).n+1),cap'⟩) (l:=put (nth [] gr.ks k) p ((j:Int),x2)) hap hkl hg.grow (fun q hq=>by rw[hre];exact(hgq q hq).2.2.1) o9;have bL9:=qI hg nL bL0;have bR9:=qI hg nR bR0;have hx9:∃y,w9=plus w y:=ZF hg hx2 (fun q hq=>by have:=hgq q hq;omega);have nKL:kb≠w1.heap.size:=fun e=>by rw[←e,hkbb]at bL0;cases bL0
   have nKR:kb≠w.heap.size+1+1+1:=fun e=>by rw[←e,hkbb]at bR0;cases bR0
   go_upto_region 13 with fail;have bL10:(w9.setCell ⟨kb,k,none⟩ (.slice ao' ((nth dRH hs k).n+1) cap')).heap[w1.heap.size]?=some (.cells #[.slice a1 n c1',.slice (some ⟨kb,0,none⟩) kn kc] 27):=(qd nKL).trans bL9;have bR10:(w9.setCell ⟨kb,k,none⟩ (.slice ao' ((nth dRH hs k).n+1) cap')).heap[w.heap.size+1+1+1]?=some (.cells #[.slice none 0 0,.slice none 0 0] 27):=(qd nKR).trans bR9;have hx10:∃y,w9.setCell ⟨kb,k,none⟩ (.slice ao' ((nth dRH hs k).n+1) cap')=plus w y:=qb hx9 om0;simp only at og3;refine zo (fun w'=>zS w4 w' a1 n c1' (some ⟨kb,0,none⟩) kn kc (hs1.set k ⟨ao',((nth dRH hs k).n+1),cap'⟩) ⟨gr.sl,gr.ks.set k (put (nth [] gr.ks k) p ((j:Int),x2))⟩∧w'.heap[w1.heap.size]?=some (.cells #[.slice a1 n c1',.slice (some ⟨kb,0,none⟩) kn kc] 27)∧w'.heap[w.heap.size+1+1+1]?=some (.cells #[.slice none 0 0,.slice none 0 0] 27)∧∃y,w'=plus w y) ⟨og3,bL10,bR10,hx10⟩ ?_;clear og3 bL10 bR10 hx10 bK9 ck9 zk9 lk9 bL9 bR9 hx9 hg o9 okh orow og2 bL0 bR0 hx2 hkbb;rintro w4 ⟨og4,bL4,bR4,hx4⟩;have q0:=i6 (i:=0) bL4 rfl;have q1:=i6 (i:=1) bL4 rfl;have s0:=i6 (i:=0) bR4 rfl;have s1:=i6 (i:=1) bR4 rfl;have y0:=j9 (i:=0) bR4;have y1:=j9 (i:=1) bR4;have lL4:=qi bL4;have lR4:=qi bR4;have og5:=(og4.set_other (i:=0) (u:=.slice a1 n c1') bR4 dc0 dc0 dc0).set_other (i:=1) (u:=.slice (some ⟨kb,0,none⟩) kn kc) (j7 bR4) dc0 dc0 dc0;have bR5:=j7 (i:=1) (u:=.slice (some ⟨kb,0,none⟩) kn kc) (j7 (i:=0) (u:=.slice a1 n c1') bR4);have hx5:=qb (i:=1) (u:=.slice (some ⟨kb,0,none⟩) kn kc) (g:=w.heap.size+1+1+1) (qb (i:=0) (u:=.slice a1 n c1') (g:=w.heap.size+1+1+1) hx4 om0) om0;clear og4;go_wp2;generalize (w4.setCell ⟨w.heap.size+1+1+1,0,none⟩ (.slice a1 n c1')).setCell ⟨w.heap.size+1+1+1,1,none⟩ (.slice (some ⟨kb,0,none⟩) kn kc)=w5 at*;have t0:=i6 (i:=0) bR5 rfl;have t1:=i6 (i:=1) bR5 rfl;have hlk:(gr.ks.set k (put (nth [] gr.ks k) p ((j:Int),x2))).length=kn:=by rw[List.length_set,hlen]
   have hpost:at4 w ⟨gr.sl,gr.ks.set k (put (nth [] gr.ks k) p ((j:Int),x2))⟩ 0 (.returned (.tuple #[.agg #[.slice a1 n c1',.slice (some ⟨kb,0,none⟩) kn kc],.int .i64 0])) w5:=by
    refine⟨a1,c1',some ⟨kb,0,none⟩,kc,hs1.set k ⟨ao',((nth dRH hs k).n+1),cap'⟩,?_,hx5,?_⟩
    ·show Ending.returned (.tuple #[.agg #[.slice a1 n c1',.slice (some ⟨kb,0,none⟩) kn kc],.int .i64 0])=.returned (.tuple #[.agg #[.slice a1 gr.sl.length c1',.slice (some ⟨kb,0,none⟩) (gr.ks.set k (put (nth [] gr.ks k) p ((j:Int),x2))).length kc],.int .i64 0]);rw[hlk,hsl]
    ·show zS w w5 a1 gr.sl.length c1' (some ⟨kb,0,none⟩) (gr.ks.set k (put (nth [] gr.ks k) p ((j:Int),x2))).length kc _ _;rw[hlk,hsl];exact og5.base om0
   exact bodyPost_ret (v:=.tuple #[.agg #[.slice a1 n c1',.slice (some ⟨kb,0,none⟩) kn kc],.int .i64 0]) (by simp[results,Tryz.results122,go_sem,t0,t1]) rfl hpost
end
/- What slices.DeleteFunc gives of handles,where one is taken out. -/
section
theorem a6P(p:Nat)(a b s g:Int)(w:World)(hp:w.heap[p]?=some (.cells #[.int .i64 s,.int .i64 g] 32)){r:Bool}(hr:decide ((a,b)=(s,g))=r):
  Calls Tryz.prog 167 #[.agg #[.int .i64 a,.int .i64 b],.pointer (some ⟨p,0,none⟩)] w fun e w'=>e=.returned (.bool r)∧Below w.heap.size w w':=by
 subst hr;have c0:=i6 (i:=0) hp rfl;have c1:=i6 (i:=1) hp rfl;have lp:=qi hp;by_cases e0:a=s
 ·by_cases e1:b=g
  ·go_enter Tryz.func167,Tryz.ntmps167;go_wp2;go_ret;exact⟨by simp[e0,e1],skB⟩
  ·have d1:(b==g)=false:=by rw[beq_eq_false_iff_ne];exact e1
   go_enter Tryz.func167,Tryz.ntmps167;go_wp2;go_ret;exact⟨by simp[e1],skB⟩
 ·have d0:(a==s)=false:=by rw[beq_eq_false_iff_ne];exact e0
  go_enter Tryz.func167,Tryz.ntmps167;go_wp2;go_ret;exact⟨by simp[e0],skB⟩
theorem a9C(p:Nat)(s g:Int)(fo:Option Addr)(fn fcap:Nat)(fl:List (Int × Int))(w:World)(hp:w.heap[p]?=some (.cells #[.int .i64 s,.int .i64 g] 32))(hL:Lay f2 w fo fn fl)(hfn:fn≤1000):
  Calls Tryz.prog 171 #[.slice fo fn fcap,.func (.func 167) #[] #[.pointer (some ⟨p,0,none⟩)]] w fun e w'=>∃v:Int,e=.returned (.int .i64 v)∧(∃y,w'=plus w y)∧((v= -1∧∀j,j<fn→nth (0,0) fl j≠(s,g))∨∃k:Nat,v=k∧k<fn∧nth (0,0) fl k=(s,g)∧∀j,j<k→nth (0,0) fl j≠(s,g)):=by
 go_enter Tryz.func171,Tryz.ntmps171;go_wp2;go_loopw [8] (fun i_ wr=>∃k:Nat,k≤fn∧i_=.int .i64 k∧(∃y,wr=plus w y)∧(∀j,j<k→nth (0,0) fl j≠(s,g))) (fun i_ _=>fn - (intOf i_).toNat)
 case atStart=>exact⟨0,Nat.zero_le _,rfl,sk0,fun j hj=>om0⟩
 case round=>
  obtain⟨k,hk,rfl,⟨x,rfl⟩,hno⟩:=hrel;by_cases hkl:k<fn;rotate_left
  ·have ik:¬(k:Int)<(fn:Int):=om0;obtain rfl:k=fn:=om0;go_wp2;go_ret;exact⟨-1,rfl,⟨x,rfl⟩,.inl ⟨rfl,hno⟩⟩
  have ik:(k:Int)<(fn:Int):=om0;obtain⟨fg,ff,rfl,hfg,hfc⟩:=hL.some om0;obtain⟨c0,c1⟩:=Y4 hL.len hfc hkl;cases hA:decide (((nth ((0,0):Int × Int) fl k).1,(nth ((0,0):Int × Int) fl k).2)=(s,g))
  ·go_wp2_with (go_at_call 167;refine pm0 (a6P p _ _ s g _ (i7 sk0 hp) hA) fun nx=>?_);go_roundw
   case rel=>exact⟨k+1,om0,by go_num,sk0,B0 hno (of_decide_eq_false hA)⟩
   case measure=>simp[intOf];omega
  ·go_wp2_with (go_at_call 167;refine pm0 (a6P p _ _ s g _ (i7 sk0 hp) hA) fun nx=>?_);go_ret;exact⟨k,rfl,sk0,.inr ⟨k,rfl,hkl,of_decide_eq_true hA,hno⟩⟩
theorem ag9{h:Int × Int}{l:List (Int × Int)}{j:Nat}(hj:j<l.length):v7 h (l.take (j+1))=v7 h (l.take j)++(if nth (0,0) l j=h then[]else[nth (0,0) l j]):=by
 rw[P1 (d:=((0,0):Int × Int)) hj,v7,List.filter_append]
 congr 1
 by_cases e:nth (0,0) l j=h
 ·rw[if_pos e];simp[e]
 ·rw[if_neg e];simp[e]
theorem ah0{h:Int × Int}{l:List (Int × Int)}{j:Nat}(hj:∀k,k<j→nth (0,0) l k≠h)(hl:j≤l.length):v7 h (l.take j)=l.take j:=by
 rw[v7,List.filter_eq_self];intro x hx;obtain⟨k,hk,rfl⟩:=List.getElem_of_mem hx;rw[List.length_take]at hk;have:=hj k om0;rw[Qv om0]at this;rw[List.getElem_take];simp[this]
def aA8 (T w:World) (ao:Option Addr) (n cap:Nat) (l:List (Int × Int)) (e:Ending) (w':World):Prop:=e=.returned (.slice ao l.length cap)∧w.grownBy w' (Value.ownBlock (.slice ao n cap))∧Own 32 2 f2 T w' ao l.length cap l
theorem a9X(T w:World)(ao:Option Addr)(n cap:Nat)(l:List (Int × Int))(p:Nat)(s g:Int)(h:Own 32 2 f2 T w ao n cap l)(hn:n≤1000)(hp:w.heap[p]?=some (.cells #[.int .i64 s,.int .i64 g] 32))(hpT:p<T.heap.size):
  Calls Tryz.prog 166 #[.slice ao n cap,.func (.func 167) #[] #[.pointer (some ⟨p,0,none⟩)]] w fun e w'=>aA8 T w ao n cap (v7 (s,g) l) e w':=by
 have hl:=h.1;by_cases hany:∃k,k<n∧nth (0,0) l k=(s,g);rotate_left
 ·have hw:v7 (s,g) l=l:=by
   have:=ah0 (h:=(s,g)) (l:=l) (j:=l.length) (fun k hk e=>hany ⟨k,om0,e⟩) (Nat.le_refl _);rwa[List.take_length]at this
  rw[hw];go_enter Tryz.func166,Tryz.ntmps166;go_wp2_with (go_at_call 171;refine(a9C p s g _ _ _ l _ hp h.lay hn).mono ?_;rintro e w1 ⟨v,rfl,hw1,hv⟩;obtain rfl:v= -1:=hv.elim (fun h=>h.1) (fun⟨k,_,hk,he,_⟩=>absurd ⟨k,hk,he⟩ hany));go_ret;exact⟨by rw[hl];rfl,Qz _ hw1,by rw[hl];exact h.ex hw1⟩
 obtain⟨k1,hk1,hk2⟩:=hany;obtain⟨gb,cg,rfl,hgT,hgb,_⟩:=h.blk om0;have hnp:p≠gb:=om0;have hcap:=h.cap_le;go_enter Tryz.func166,Tryz.ntmps166;go_upto_region 5 with(go_at_call 171;refine(a9C p s g _ _ _ l _ hp h.lay hn).mono ?_;rintro e w1 ⟨v,rfl,hw1,hv⟩;obtain⟨k0,rfl,hk0,hke,hkn⟩:∃k:Nat,v=k∧k<n∧nth (0,0) l k=(s,g)∧∀j,j<k→nth (0,0) l j≠(s,g):=hv.elim (fun h=>absurd hk2 (h.2 k1 hk1)) id;have dm:((k0:Int)== -1)=false:=(by rw[beq_eq_false_iff_ne];omega);have iwk:IntKind.i64.wrap ((k0:Int)+1)=(k0:Int)+1:=L5 om0);have hwk:=ah0 (h:=(s,g)) (l:=l) (j:=k0) hkn om0;have hws:=ag9 (h:=(s,g)) (l:=l) (j:=k0) om0;rw[hwk,hke,if_pos rfl,List.append_nil]at hws;have h1:=h.ex hw1;have hp1:=i7 hw1 hp;have hg1:=Qz (some gb) hw1;go_loopw [5,6] (fun a_ b_ wr=>∃(i j:Nat) (L:List (Int × Int)),i<j∧j≤n∧a_=.int .i64 i∧b_=.int .i64 j∧w.grownBy wr (some gb)∧wr.heap[p]?=some (.cells #[.int .i64 s,.int .i64 g] 32)∧Own 32 2 f2 T wr (some ⟨gb,0,none⟩) n cap L∧L.take i=v7 (s,g) (l.take j)∧(∀k,j≤k→nth (0,0) L k=nth (0,0) l k)) (fun _ b_ _=>n - (intOf b_).toNat)
 case atStart=>exact⟨k0,k0+1,l,om0,om0,rfl,by go_num,hg1,hp1,h1,hws.symm,fun k _=>rfl⟩
 case round=>
  clear h1 hp1 hg1 hws hwk;obtain⟨i,j,L,hij,hjn,rfl,rfl,hg,hpw,hO,hLt,hLk⟩:=hrel;have hLl:=hO.1;by_cases hjl:j<n;rotate_left
  ·have ij:¬(j:Int)<(n:Int):=om0;obtain rfl:j=n:=om0;obtain⟨w3,hcl,hg3,o3⟩:=U1 hO (i:=i) (k:=j - i) om0 om0 om0;have hcl':=hcl 0 (cap - i);clear hcl;have i1:(i:Int)≤(j:Int):=om0;have i2:(0:Int)≤(i:Int):=om0;have i3:(i:Int)≤(cap:Int):=om0;have i4:¬cap=i:=om0;rw[hLt,List.take_of_length_le om0]at o3;have hwl:=o3.1;go_wp2;go_ret;exact⟨by rw[hwl];rfl,hg.trans hg3,by rw[hwl];exact o3⟩
  have ij:(j:Int)<(n:Int):=om0;have lpw:=qi hpw;obtain⟨x0,x1⟩:=Y4 hLl (ab2 hO.lay om0) hjl;rw[Nat.zero_add]at x0 x1;obtain⟨y0,y1⟩:=Y4 hLl (ab2 hO.lay om0) (k:=i) om0;rw[Nat.zero_add]at y0 y1;obtain⟨cu,hcu,_⟩:=QX hO;have lcu:=qi hcu;have z0:=j9 (i:=i*2) hcu;have z1:=j9 (i:=i*2+1) hcu;rw[hLk j (Nat.le_refl _)]at x0 x1;have hstep:=ag9 (h:=(s,g)) (l:=l) (j:=j) om0;have ii:(i:Int)<(n:Int):=om0;have iwj:IntKind.i64.wrap ((j:Int)+1)=(j:Int)+1:=L5 om0;have iwi:IntKind.i64.wrap ((i:Int)+1)=(i:Int)+1:=L5 om0;cases hA:decide (((nth ((0,0):Int × Int) l j).1,(nth ((0,0):Int × Int) l j).2)=(s,g));rotate_left
  ·rw[if_pos (of_decide_eq_true hA),List.append_nil]at hstep;go_wp2_with (go_at_call 167;refine pm0 (a6P p _ _ s g _ (i7 sk0 hpw) hA) fun nx=>?_);go_roundw
   case rel=>exact⟨i,j+1,L,om0,om0,rfl,by go_num,hg.trans (Qz _ sk0),i7 sk0 hpw,hO.ex sk0,by rw[hstep];exact hLt,fun k hk=>hLk k om0⟩
   case measure=>simp[intOf];omega
  rw[if_neg (of_decide_eq_false hA)]at hstep;go_upto_region 9 with(go_at_call 167;refine pm0 (a6P p _ _ s g _ (i7 sk0 hpw) hA) fun nx=>?_);refine zo (fun w0=>(∃y,w0=plus wr y)∧w0.heap[wr.heap.size]?=some (.cells #[.int .i64 (nth (0,0) l j).1,.int .i64 (nth (0,0) l j).2] 32)) ⟨sk0,i7 (zt (j5 _)) (by rw[qe,if_pos rfl])⟩ ?_;rintro w0 ⟨hx0,hbv⟩;have hO0:=hO.ex hx0;have hcu0:=i7 hx0 hcu;have y0':=qf hx0 y0;have y1':=qf hx0 y1;have z0':=j9 (i:=i*2) hcu0;have z1':=j9 (i:=i*2+1) hcu0;have v0:=i6 (i:=0) hbv rfl;have v1:=i6 (i:=1) hbv rfl;have lv:=qi hbv;have lc0:=qi hcu0;have s1:=hO0.set_self (u:=.int .i64 (nth (0,0) l j).1) i 0 ((nth (0,0) l j).1,(nth (0,0) L i).2) (0,0) om0 Q1 dc0 rfl;have s2:=s1.set_self (u:=.int .i64 (nth (0,0) l j).2) i 1 (nth (0,0) l j) (0,0) om0 Q1 dc0 (by rw[ZR om0,if_pos rfl];rfl);rw[Nat.add_zero,List.set_set]at s2;have hgs:w0.grownBy ((w0.setCell ⟨gb,i*2,none⟩ (.int .i64 (nth (0,0) l j).1)).setCell ⟨gb,i*2+1,none⟩ (.int .i64 (nth (0,0) l j).2)) (some gb):=⟨rfl,rfl,rfl,by rw[B9,B9];exact Nat.le_refl _,fun k _ hk=>(qd (fun e=>hk (by rw[e]))).trans (qd (fun e=>hk (by rw[e])))⟩;have hps:=(hgs.block p (qi (i7 hx0 hpw)) (fun e=>hnp (by cases e;rfl))).trans (i7 hx0 hpw);have hgf:=(hg.trans (Qz (some gb) hx0)).trans hgs;clear s1 hO0 y0 y1 z0 z1 x0 x1 hcu;go_wp2;go_roundw
  case rel=>
   refine⟨i+1,j+1,L.set i (nth (0,0) l j),om0,om0,by go_num,by go_num,hgf,hps,s2,?_,fun k hk=>?_⟩
   ·rw[P1 (d:=((0,0):Int × Int)) (by rw[List.length_set];omega),ZR om0,if_pos rfl,hstep,←hLt,List.take_set_of_le (Nat.le_refl _)]
   ·rw[ZR om0,if_neg om0];exact hLk k om0
  case measure=>simp[intOf];omega
end
/- What nodes.Kill gives. -/
section
open Go.Maps Go.RowKit Go.ChangeShapes Go.WideShapes Go.ChangeAt
def a9B (i:Nat):List Nat:=match i with|0=>[29]|1=>[30]|2=>[31]|3=>[32]|4=>[33,32]|5=>[9]|_=>[]
def a4c (T:World) (p:Nat) (xa:Option Addr) (ln xc:Nat) (ko:Option Addr) (kn kcap:Nat) (ks:List (List (Int × Int))) (i:Nat) (t:Nat→Value) (w':World):Prop:=match i with
 |0=>t 29=.agg #[.slice xa ln xc]
 |1=>t 30=.pointer (some ⟨p,1,none⟩)
 |2=>t 31=.slice ko kn kcap
 |3=>∃a c hs,t 32=.slice a kn c∧an6 T w' a kn c hs ks
 |4=>∃c,t 33=.agg #[.slice xa ln xc,c]∧t 32=c
 |5=>∃g,t 9=.pointer (some ⟨g,0,none⟩)∧T.heap.size≤g∧w'.heap[g]?=some (.cells #[.slice none 0 0,.slice none 0 0] 27)
 |_=>True
theorem a4N(T:World)(p:Nat)(xa:Option Addr)(ln xc:Nat)(ko:Option Addr)(kn kcap:Nat)(ks:List (List (Int × Int))):∀i t t' w' x,a4c T p xa ln xc ko kn kcap ks i t w'→(∀s∈a9B i,t' s=t s)→a4c T p xa ln xc ko kn kcap ks i t' (plus w' x):=by
 intro i t t' w' x h hs'
 match i with
 |0=>exact(hs' 29 dc0).trans h
 |1=>exact(hs' 30 dc0).trans h
 |2=>exact(hs' 31 dc0).trans h
 |3=>obtain⟨a,c,q,e,o⟩:=h;exact⟨a,c,q,(hs' 32 dc0).trans e,o.ex ⟨x,rfl⟩⟩
 |4=>obtain⟨c,e1,e2⟩:=h;exact⟨c,(hs' 33 dc0).trans e1,(hs' 32 dc0).trans e2⟩
 |5=>obtain⟨g,e,hg,hb⟩:=h;exact⟨g,(hs' 9 dc0).trans e,hg,i7 ⟨x,rfl⟩ hb⟩
 |i+6=>trivial
def klS (i:Nat):List Nat:=match i with|0=>[47]|1=>[48]|2=>[49]|3=>[50]|4=>[51]|5=>[52]|6=>[53]|_=>[]
def klΦ (T:World) (gq:Option Nat) (pm kb kn kc ix:Nat) (ra:Option Addr) (rn rc ph:Nat) (h:Int × Int) (l:List (Int × Int)) (i:Nat) (t:Nat→Value) (D:Nat→Bool) (w':World):Prop:=match i with
 |0=>t 47=.pointer (some ⟨pm,1,none⟩)
 |1=>t 48=.slice (some ⟨kb,0,none⟩) kn kc
 |2=>t 49=.int .i64 (ix:Int)
 |3=>t 50=.slice ra rn rc
 |4=>t 51=.func (.func 167) #[] #[.pointer (some ⟨ph,0,none⟩)]
 |5=>t 52=.slice ra (v7 h l).length rc∧Own 32 2 f2 T w' ra (v7 h l).length rc (v7 h l)∧D 5=true
 |6=>t 53=.pointer (some ⟨kb,ix,none⟩)
 |_=>True
theorem a6I(T:World)(gq:Option Nat)(pm kb kn kc ix:Nat)(ra:Option Addr)(rn rc ph:Nat)(h:Int × Int)(l:List (Int × Int)):∀i t t' D w D' w',klΦ T gq pm kb kn kc ix ra rn rc ph h l i t D w→(∀s∈klS i,t' s=t s)→ap4 5 gq D w D' w'→klΦ T gq pm kb kn kc ix ra rn rc ph h l i t' D' w':=by
 intro i t t' D w D' w' h_ hs' ht
 match i with
 |0=>exact(hs' 47 dc0).trans h_
 |1=>exact(hs' 48 dc0).trans h_
 |2=>exact(hs' 49 dc0).trans h_
 |3=>exact(hs' 50 dc0).trans h_
 |4=>exact(hs' 51 dc0).trans h_
 |5=>exact⟨(hs' 52 dc0).trans h_.1,ay6 h_.2.1 ht h_.2.2,ht.mono h_.2.2⟩
 |6=>exact(hs' 53 dc0).trans h_
 |i+7=>trivial
theorem a5j{gr:Gr}{k:Nat}{g:Int}(he:zH gr ((k:Int),g) ((k:Int),g)=0):N0 gr ((k:Int),g)=⟨qK gr.sl k,(gr.ks.set k []).map (v7 ((k:Int),g))⟩:=by
 rw[N0,he,if_pos rfl,U3];show Gr.mk (qK gr.sl k) ((gr.ks.map (v7 ((k:Int),g))).set ((k:Int)).toNat [])=_;rw[Int.toNat_natCast,List.map_set];rfl
def aA3 (h:Int × Int) (ks0 ks':List (List (Int × Int))) (i:Nat):Prop:=∀j,nth [] ks' j=if j<i then v7 h (nth [] ks0 j)else nth [] ks0 j
theorem ab8{α:Type}{f:α→List Value}{T w w':World}{ao:Option Addr}{n cap c:Nat}{l:List α}{e e':TypeId}{gb:Option Nat}(h:Own e c f T w ao n cap l)(hg:w.grownBy w' gb)(hty:∀q,gb=some q→∃cur,w.heap[q]?=some (.cells cur e'))(hne:e'≠e):Own e c f T w' ao n cap l:=by
 cases hq:gb with
 |none=>exact Qq h (hq▸hg) (fun a _=>by simp)
 |some q=>
  obtain⟨cur,hb⟩:=hty q hq;exact R8 h (hq▸hg) hb hne
theorem an6.upd{T w w':World}{kb kn kcap:Nat}{hs:List RH}{ks:List (List (Int × Int))}{k:Nat}{gb:Option Nat}{r:RH}{l:List (Int × Int)}(h:an6 T w (some ⟨kb,0,none⟩) kn kcap hs ks)(hk:k<kn)(hg:w.grownBy w' gb)(hgb:∀q,gb=some q→(nth dRH hs k).ao=some ⟨q,0,none⟩)(hr:r.ao=(nth dRH hs k).ao∨r.ao=none)(o:Own 32 2 f2 T w' r.ao r.n r.cap l):
  an6 T (w'.setCell ⟨kb,k,none⟩ (.slice r.ao r.n r.cap)) (some ⟨kb,0,none⟩) kn kcap (hs.set k r) (ks.set k l):=by
 have hl:=h.kh.1;have hkl:=h.kl;have hty:∀q,gb=some q→∃cur,w.heap[q]?=some (.cells cur 32):=fun q hq=>by
  have hr:=h.row k om0;rw[hgb q hq]at hr;obtain⟨cur,hb,_⟩:=QX hr;exact⟨cur,hb⟩
 have kh':=ab8 h.kh hg hty dc0;obtain⟨cur,hb,_⟩:=QX kh';have hs1:=kh'.set_self (u:=.slice r.ao r.n r.cap) k 0 r dRH hk a4O dc0 rfl;rw[Nat.mul_one,Nat.add_zero]at hs1;refine⟨hs1,by rw[List.length_set,List.length_set];exact h.len,fun j hj=>?_,a1p h.apart om0 fun j hj hjk a b ha hb=>?_⟩
 ·rw[List.length_set]at hj;rw[qR om0,qR om0];by_cases e:j=k
  ·rw[if_pos e,if_pos e];exact o.set_other hb dc0
  ·rw[if_neg e,if_neg e];refine(Qq (h.row j hj) hg fun a ha=>?_).set_other hb dc0;intro e2;cases hq:gb with
   |none=>rw[hq]at e2;cases e2
   |some q=>
    rw[hq]at e2;cases e2;exact h.apart j k hj om0 e a _ ha (hgb _ hq) rfl
 ·rcases hr with hr|hr
  ·rw[hr]at hb;exact h.apart j k hj om0 hjk a b ha hb
  ·rw[hr]at hb;cases hb
theorem a2p(ao:Option Addr)(n cap:Nat)(ko:Option Addr)(kn kcap:Nat)(hs:List RH)(gr:Gr)(s g:Int)(w:World)(hG:QL w ao n ko kn hs gr):
  Calls Tryz.prog 124 #[.agg #[.slice ao n cap,.slice ko kn kcap],.agg #[.int .i64 s,.int .i64 g]] w fun e w'=>at4 w (N0 gr (s,g)) (zH gr (s,g) (s,g)) e w':=by
 have hlen:=hG.kl;have hkh:=hG.kh.len;have hsl:=hG.sl.len;have m1:=hG.n1;have m2:=hG.n2;have hmf:∀(fn:Fn) (first cap:Array Value) (w:World),(Instr.makeFunc fn first cap).run Tryz.prog w=.ok (.func fn first cap) w:=fun _ _ _ _=>rfl
 cases hO:QV gr
 ·have he:zH gr (s,g) (s,g)=8:=by rw[zH,hO];rfl
  have hC:QE gr=8:=by rw[QE,hO];rfl
  rw[he,show N0 gr (s,g)=P4 by rw[N0,he];rfl];go_enter Tryz.func124,Tryz.ntmps124;go_wp2_with (go_at_call 27;refine pm0 (Zj hC _ _ _ _ _ _ hs (hG.ex sk0)) fun nx=>?_);exact bodyPost_ret (v:=.tuple #[.agg #[.slice none 0 0,.slice none 0 0],.int .i64 8]) (by simp[results,Tryz.results124,go_sem,↓IntWalk.iteOmega]) rfl ⟨none,0,none,0,[],rfl,sk0,zK⟩
 have hC:QE gr=0:=by rw[QE,hO];rfl
 obtain⟨harOk,h2,h3,_⟩:=zx hO;cases hh:qG gr.sl s g
 ·have he:zH gr (s,g) (s,g)=50:=by rw[zH,hO,if_pos rfl,if_neg (by rw[hh];simp)]
  have hkE:D8 gr.sl s g=50:=by rw[D8,if_pos harOk,hh];rfl
  rw[he,show N0 gr (s,g)=P4 by rw[N0,he];rfl];go_enter Tryz.func124,Tryz.ntmps124;go_wp2_with (first|(go_at_call 27;refine pm0 (Zj hC _ _ _ _ _ _ hs (hG.ex sk0)) fun nx=>?_)|(go_at_call 165;refine(an1 _ _ _ gr.sl s g _ (hG.sl.ex sk0) om0).mono ?_;rw[hkE];rintro e wm ⟨xa,xc,rfl,⟨ym,rfl⟩,om⟩));exact bodyPost_ret (v:=.tuple #[.agg #[.slice none 0 0,.slice none 0 0],.int .i64 50]) (by simp[results,Tryz.results124,go_sem,↓IntWalk.iteOmega]) rfl ⟨none,0,none,0,[],rfl,sk0,zK⟩
 have he:zH gr (s,g) (s,g)=0:=by rw[zH,hO,if_pos rfl,if_pos ⟨hh,hh⟩]
 have hl:=A8 hh;obtain⟨k,rfl⟩:∃k:Nat,s=(k:Int):=⟨s.toNat,om0⟩;rw[Int.toNat_natCast]at hl;have hkl:k<kn:=om0;have ik:(k:Int)<(kn:Int):=om0;have hkE:D8 gr.sl k g=0:=by rw[D8,if_pos harOk,if_pos hh]
 have hkR:H1 gr.sl k g=qK gr.sl k:=by rw[H1,if_pos hkE]
 rw[he];go_enter Tryz.func124,Tryz.ntmps124;go_upto_region 7 with(first|(go_at_call 27;refine pm0 (Zj hC _ _ _ _ _ _ hs (hG.ex sk0)) fun nx=>?_)|(go_at_call 165;refine(an1 _ _ _ gr.sl (k:Int) g _ (hG.sl.ex sk0) om0).mono ?_;rw[hkE,hkR];rintro e wm ⟨xa,xc,rfl,hwm,om⟩));have zm:w.heap.size+1+1+1≤wm.heap.size:=by
  have:=qu hwm;simp[go_sem]at this;omega
 have hTw:∃y,wm.alloc (.cells #[.slice xa (qK gr.sl k).length xc] 24)=plus w y:=sn0;have bA0:(wm.alloc (.cells #[.slice xa (qK gr.sl k).length xc] 24)).heap[wm.heap.size]?=some (.cells #[.slice xa (qK gr.sl k).length xc] 24):=by rw[qe,if_pos rfl]
 have bG0:(wm.alloc (.cells #[.slice xa (qK gr.sl k).length xc] 24)).heap[w.heap.size]?=some (.cells #[.slice ao n cap,.slice ko kn kcap] 27):=i7 (w:=(w.alloc (.cells #[.slice ao n cap,.slice ko kn kcap] 27))) sn0 (by rw[qe,if_pos rfl]);have bH0:(wm.alloc (.cells #[.slice xa (qK gr.sl k).length xc] 24)).heap[w.heap.size+1]?=some (.cells #[.int .i64 (k:Int),.int .i64 g] 32):=i7 (w:=(w.alloc (.cells #[.slice ao n cap,.slice ko kn kcap] 27)).alloc (.cells #[.int .i64 (k:Int),.int .i64 g] 32)) sn0 (by rw[qe,if_pos (by simp)]);have b10:(wm.alloc (.cells #[.slice xa (qK gr.sl k).length xc] 24)).heap[w.heap.size+1+1]?=some (.cells #[.slice none 0 0,.slice none 0 0] 27):=i7 (w:=((w.alloc (.cells #[.slice ao n cap,.slice ko kn kcap] 27)).alloc (.cells #[.int .i64 (k:Int),.int .i64 g] 32)).alloc (.cells #[.slice none 0 0,.slice none 0 0] 27)) sn0 (by rw[qe,if_pos (by simp)]);have ox0:=(om.ex (qE (o:=(.cells #[.slice xa (qK gr.sl k).length xc] 24)) (j5 wm))).base (T':=w) (by simp[go_sem];omega);clear om;generalize wm.alloc (.cells #[.slice xa (qK gr.sl k).length xc] 24)=Tw at*;have l10:=qi b10;have a0:=i6 (i:=0) bA0 rfl;have g1:=i6 (i:=1) bG0 rfl;have la0:=qi bA0;have lg1:=qi bG0;refine zJ 6 a9B (a4c Tw w.heap.size xa ((qK gr.sl k).length) xc ko kn kcap gr.ks) kr0 kr0 dc0 (a4N Tw w.heap.size xa ((qK gr.sl k).length) xc ko kn kcap gr.ks) ?steps ?fin
 case steps=>
  refine⟨?_,?_,?_,?_,?_,?_,trivial⟩<;>intro a w' hg hfree hdeep<;>obtain⟨x,rfl⟩:=hg
  ·have f7_:=hfree 7 kr0;simp only[a4c,got]at f7_;simp[go_sem]at f7_;unfold Oper.wp;simp[go_sem,execOp,Act.eval,↓IntWalk.iteOmega,f7_,a0];exact⟨_,rfl,j5 _,by simp[a4c,upd]⟩
  ·have f2_:=hfree 2 kr0;simp only[a4c,got]at f2_;simp[go_sem]at f2_;unfold Oper.wp;simp[go_sem,execOp,Act.eval,↓IntWalk.iteOmega,f2_];exact⟨_,rfl,j5 _,by simp[a4c,upd]⟩
  ·have d1:=hdeep 1 kr0;simp only[a4c,got]at d1;unfold Oper.wp;simp[go_sem,execOp,Act.eval,↓IntWalk.iteOmega,d1,g1];exact⟨_,rfl,j5 _,by simp[a4c,upd]⟩
  ·have d2:=hdeep 2 kr0;simp only[a4c,got]at d2;unfold Oper.wp;simp[go_sem,execOp,Act.eval,↓IntWalk.iteOmega,d2];refine(ZB ao n cap _ _ _ hs gr _ (hG.ex (zt hTw))).mono ?_;rintro e w1 ⟨k1,c1,hs1,rfl,hw1,o1⟩;exact⟨_,rfl,hw1,k1,c1,hs1,by simp[upd],o1.base (by rw[qn];omega)⟩
  ·have d0:=hdeep 0 kr0;obtain⟨a8,c8,_,e8,_⟩:∃a_ c hs,got a 32=.slice a_ kn c∧_:=hdeep 3 kr0;simp only[a4c,got]at d0;have g8:=e8;simp only[got]at g8;simp at g8;simp at d0;unfold Oper.wp;simp[go_sem,execOp,Act.eval,↓IntWalk.iteOmega,d0,g8];exact⟨_,rfl,j5 _,.slice a8 kn c8,by simp[upd],by simp[upd];exact e8⟩
  ·unfold Oper.wp;simp[go_sem,execOp,Act.eval];exact⟨_,rfl,qE (j5 _),_,by simp[upd];rfl,by simp[go_sem],by rw[qe,if_pos (by simp[go_sem])]⟩
 case fin=>
  rintro t w2 hg2 hΦ;have r0:=hΦ 0 dc0;have r1:=hΦ 1 dc0;have r2:=hΦ 2 dc0;obtain⟨ka,kc,hs1,r3,kO⟩:=hΦ 3 dc0;obtain⟨c9,r4,r4b⟩:=hΦ 4 dc0;obtain⟨pm,r5,hpm,hpb⟩:=hΦ 5 dc0;rw[r3]at r4b;cases r4b;simp only[a4c]at r0 r1 r2;simp only[zh,List.take_succ_cons,List.take_zero,List.drop_succ_cons,List.drop_zero,r0,r1,r2,r3,r4,r5];simp only[Act.put];simp only[List.setIfInBounds_toArray,List.set_cons_succ,List.set_cons_zero];clear hΦ r0 r1 r2 r3 r4 r5 a0 g1;have pc0:=i6 (i:=0) hpb rfl;have pc1:=i6 (i:=1) hpb rfl;have pz0:=j9 (i:=0) hpb;have pz1:=j9 (i:=1) hpb;go_upto_region 8 with fail;refine zo (fun w'=>w'=(w2.setCell ⟨pm,0,none⟩ (.slice xa ((qK gr.sl k).length) xc)).setCell ⟨pm,1,none⟩ (.slice ka kn kc)) rfl ?_;rintro w3 e3;have bv3:w3.heap[pm]?=some (.cells #[.slice xa ((qK gr.sl k).length) xc,.slice ka kn kc] 27):=by rw[e3];exact j7 (j7 hpb)
  have hx3:∃y,w3=plus Tw y:=by rw[e3];exact qb (qb hg2 hpm) hpm
  have ox3:Own 86 2 fS w w3 xa ((qK gr.sl k).length) xc (qK gr.sl k):=by rw[e3];exact((ox0.ex hg2).set_other hpb dc0).set_other (j7 hpb) dc0
  have kO3:an6 Tw w3 ka kn kc hs1 gr.ks:=by rw[e3];exact(kO.set_other hpb dc0 dc0).set_other (j7 hpb) dc0 dc0
  have bH3:w3.heap[w.heap.size+1]?=some (.cells #[.int .i64 (k:Int),.int .i64 g] 32):=by rw[e3];exact((qd (by have:=qi bH0;omega)).trans (qd (by have:=qi bH0;omega))).trans (i7 hg2 bH0)
  have b13:w3.heap[w.heap.size+1+1]?=some (.cells #[.slice none 0 0,.slice none 0 0] 27):=by rw[e3];exact((qd (by have:=qi b10;omega)).trans (qd (by have:=qi b10;omega))).trans (i7 hg2 b10)
  clear e3 kO hpb pc0 pc1 pz0 pz1 ox0 hg2;have lpm:=qi bv3;clear bA0 bG0 bH0 b10;obtain⟨kb,cu,rfl,hkb,hkbb,_⟩:=kO3.kh.blk om0;have v1:=i6 (i:=1) bv3 rfl;have h0:=i6 (i:=0) bH3 rfl;have ck:=V6 kO3.kh.lay hkl;have zk:=j9 (i:=k) hkbb;have lkb:=qi hkbb;have lh3:=qi bH3;have zTw:=qu hTw;have hI3:=kO3.upd (w':=w3) (gb:=none) (r:=dRH) (l:=[]) hkl (ad8 w3 none) (fun q hq=>by cases hq) (.inr rfl) zd;have nKP:kb≠pm:=fun e=>by rw[←e,hkbb]at bv3;cases bv3
  have bv4:=(qd (w:=w3) (i:=k) (u:=.slice none 0 0) nKP).trans bv3;have bh4:=(qd (w:=w3) (i:=k) (u:=.slice none 0 0) (show kb≠w.heap.size+1 by omega)).trans bH3;have br4:=(qd (w:=w3) (i:=k) (u:=.slice none 0 0) (show kb≠w.heap.size+1+1 by omega)).trans b13;have ox4:=ox3.set_other (i:=k) (u:=.slice none 0 0) hkbb dc0;have hx4:∃y,w3.setCell ⟨kb,k,none⟩ (.slice none 0 0)=plus w y:=qb (i9 hTw hx3) om0;go_upto_region 9 with fail;refine zo (fun w'=>an6 Tw w' (some ⟨kb,0,none⟩) kn kc (hs1.set k dRH) (gr.ks.set k [])∧Own 86 2 fS w w' xa (qK gr.sl k).length xc (qK gr.sl k)∧w'.heap[pm]?=some (.cells #[.slice xa (qK gr.sl k).length xc,.slice (some ⟨kb,0,none⟩) kn kc] 27)∧w'.heap[w.heap.size+1]?=some (.cells #[.int .i64 (k:Int),.int .i64 g] 32)∧w'.heap[w.heap.size+1+1]?=some (.cells #[.slice none 0 0,.slice none 0 0] 27)∧∃y,w'=plus w y) ⟨hI3,ox4,bv4,bh4,br4,hx4⟩ ?_;clear hI3 ox4 bv4 bh4 br4 hx4 v1 h0 ck zk kO3 ox3 bv3 bH3 b13 hx3 hkbb lpm lkb lh3;rintro w4 ⟨hI4,ox4,bv4,bh4,br4,hx4⟩;have v1:=i6 (i:=1) bv4 rfl;have lp4:=qi bv4;go_wp2;go_loopw [42] (fun i_ wr=>∃(i:Nat) (hs':List RH) (ks':List (List (Int × Int))),i≤kn∧i_=.int .i64 i∧an6 Tw wr (some ⟨kb,0,none⟩) kn kc hs' ks'∧Own 86 2 fS w wr xa (qK gr.sl k).length xc (qK gr.sl k)∧wr.heap[pm]?=some (.cells #[.slice xa (qK gr.sl k).length xc,.slice (some ⟨kb,0,none⟩) kn kc] 27)∧wr.heap[w.heap.size+1]?=some (.cells #[.int .i64 (k:Int),.int .i64 g] 32)∧wr.heap[w.heap.size+1+1]?=some (.cells #[.slice none 0 0,.slice none 0 0] 27)∧(∃y,wr=plus w y)∧aA3 ((k:Int),g) (gr.ks.set k []) ks' i) (fun i_ _=>kn - (intOf i_).toNat)
  case atStart=>exact⟨0,_,_,Nat.zero_le _,rfl,hI4,ox4,bv4,bh4,br4,hx4,fun j=>by rw[if_neg om0]⟩
  case round=>
   clear hI4 ox4 bv4 bh4 br4 hx4 v1 lp4;obtain⟨i,hs',ks',hi,rfl,hI,ox,bv,bh,br,hx,hks⟩:=hrel;have hkl':=hI.kl;have hhl':=hI.kh.1;by_cases hil:i<kn;rotate_left
   ·have ii:¬(i:Int)<(kn:Int):=om0;obtain rfl:i=kn:=om0;have q0:=i6 (i:=0) bv rfl;have q1:=i6 (i:=1) bv rfl;have s0:=i6 (i:=0) br rfl;have s1:=i6 (i:=1) br rfl;have y0:=j9 (i:=0) br;have y1:=j9 (i:=1) br;have lb:=qi bv;have lr:=qi br;have og4:zS w wr xa (qK gr.sl k).length xc (some ⟨kb,0,none⟩) i kc hs' ⟨qK gr.sl k,ks'⟩:=zS.mk2 (hI.base (qu hTw)) ox;have og5:=(og4.set_other (i:=0) (u:=.slice xa (qK gr.sl k).length xc) br dc0 dc0 dc0).set_other (i:=1) (u:=.slice (some ⟨kb,0,none⟩) i kc) (j7 br) dc0 dc0 dc0;have bR5:=j7 (i:=1) (u:=.slice (some ⟨kb,0,none⟩) i kc) (j7 (i:=0) (u:=.slice xa (qK gr.sl k).length xc) br);have hx5:=qb (i:=1) (u:=.slice (some ⟨kb,0,none⟩) i kc) (g:=w.heap.size+1+1) (qb (i:=0) (u:=.slice xa (qK gr.sl k).length xc) (g:=w.heap.size+1+1) hx om0) om0;clear og4;go_wp2;generalize (wr.setCell ⟨w.heap.size+1+1,0,none⟩ (.slice xa (qK gr.sl k).length xc)).setCell ⟨w.heap.size+1+1,1,none⟩ (.slice (some ⟨kb,0,none⟩) i kc)=w5 at*;have t0:=i6 (i:=0) bR5 rfl;have t1:=i6 (i:=1) bR5 rfl;have hpost:at4 w (N0 gr ((k:Int),g)) 0 (.returned (.tuple #[.agg #[.slice xa (qK gr.sl k).length xc,.slice (some ⟨kb,0,none⟩) i kc],.int .i64 0])) w5:=by
     have hke:ks'=(gr.ks.set k []).map (v7 ((k:Int),g)):=by
      refine aw7 (d:=[]) (by rw[hkl',List.length_map,List.length_set,hlen]) fun j hj=>?_
      rw[hks j,if_pos om0,ax1 (d:=[]) (e:=[]) rfl]
     rw[a5j he,←hke];refine⟨xa,xc,some ⟨kb,0,none⟩,kc,hs',?_,hx5,?_⟩
     ·show Ending.returned (.tuple #[.agg #[.slice xa (qK gr.sl k).length xc,.slice (some ⟨kb,0,none⟩) i kc],.int .i64 0])=.returned (.tuple #[.agg #[.slice xa (qK gr.sl k).length xc,.slice (some ⟨kb,0,none⟩) ks'.length kc],.int .i64 0]);rw[hkl']
     ·show zS w w5 xa (qK gr.sl k).length xc (some ⟨kb,0,none⟩) ks'.length kc _ _;rw[hkl'];exact og5
    exact bodyPost_ret (v:=.tuple #[.agg #[.slice xa (qK gr.sl k).length xc,.slice (some ⟨kb,0,none⟩) i kc],.int .i64 0]) (by simp[results,Tryz.results124,go_sem,t0,t1]) rfl hpost
   have ii:(i:Int)<(kn:Int):=om0;have hci:=V6 hI.kh.lay hil;have orow:=hI.row i om0;have hrn3:(nth [] ks' i).length≤1000:=by
    rw[hks i,if_neg om0,qR om0];by_cases e:i=k
    ·rw[if_pos e];decide
    ·rw[if_neg e];have:=(Qk h3 (i:=i) om0).1;omega
   obtain⟨kb',cu',ekb,hkb',hkbb,_⟩:=hI.kh.blk om0;cases ekb;generalize hre:nth dRH hs' i=r at*;obtain⟨ra,rn,rc⟩:=r;simp only at hci orow;have hrnl:=orow.1;have hgq:=a0o orow;have nP:some pm≠Value.ownBlock (.slice ra rn rc):=fun e=>by obtain⟨_,_,_,cur,hb⟩:=hgq _ e.symm;rw[hb]at bv;cases bv
   have nH:some (w.heap.size+1)≠Value.ownBlock (.slice ra rn rc):=fun e=>by have:=hgq _ e.symm;omega
   have nR:some (w.heap.size+1+1)≠Value.ownBlock (.slice ra rn rc):=fun e=>by have:=hgq _ e.symm;omega
   have nK:some kb≠Value.ownBlock (.slice ra rn rc):=fun e=>by obtain⟨_,_,_,cur,hb⟩:=hgq _ e.symm;rw[hb]at hkbb;cases hkbb
   have lkb:=qi hkbb;go_wp2;refine zR 7 klS (klΦ Tw (Value.ownBlock (.slice ra rn rc)) pm kb kn kc i ra rn rc (w.heap.size+1) ((k:Int),g) (nth [] ks' i)) (ap4 5 (Value.ownBlock (.slice ra rn rc))) S8 (Y6 _) kr0 kr0 dc0 (a6I Tw (Value.ownBlock (.slice ra rn rc)) pm kb kn kc i ra rn rc (w.heap.size+1) ((k:Int),g) (nth [] ks' i)) ?steps ?fin
   case steps=>
    refine⟨?_,?_,?_,?_,?_,?_,?_,trivial⟩<;>intro a D w' hg hfree hdeep hD
    ·have f9_:=hfree 9 kr0;simp only[klΦ,got]at f9_;simp[go_sem]at f9_;unfold Oper.wp;simp[go_sem,execOp,Act.eval,↓IntWalk.iteOmega,f9_];exact⟨_,rfl,t7 (j5 _),by simp[klΦ,upd]⟩
    ·have d0:=hdeep 0 kr0;simp only[klΦ,got]at d0;simp[go_sem]at d0;have c1_:=i6 (i:=1) (qI hg (nP) bv) rfl;unfold Oper.wp;simp[go_sem,execOp,Act.eval,↓IntWalk.iteOmega,d0,c1_];exact⟨_,rfl,t7 (j5 _),by simp[klΦ,upd]⟩
    ·have f10_:=hfree 10 kr0;simp only[klΦ,got]at f10_;simp[go_sem]at f10_;unfold Oper.wp;simp[go_sem,execOp,Act.eval,↓IntWalk.iteOmega,f10_];exact⟨_,rfl,t7 (j5 _),by simp[klΦ,upd]⟩
    ·have f11_:=hfree 11 kr0;simp only[klΦ,got]at f11_;simp[go_sem]at f11_;unfold Oper.wp;simp[go_sem,execOp,Act.eval,↓IntWalk.iteOmega,f11_];exact⟨_,rfl,t7 (j5 _),by simp[klΦ,upd]⟩
    ·have f3_:=hfree 3 kr0;simp only[klΦ,got]at f3_;simp[go_sem]at f3_;unfold Oper.wp;simp[go_sem,execOp,Act.eval,↓IntWalk.iteOmega,f3_,hmf];exact⟨_,rfl,t7 (j5 _),by simp[klΦ,upd]⟩
    ·have d3:=hdeep 3 kr0;have d4:=hdeep 4 kr0;simp only[klΦ,got]at d3 d4;simp[go_sem]at d3 d4;obtain⟨x,rfl⟩:=B7 hg hD;unfold Oper.wp;simp[go_sem,execOp,Act.eval,↓IntWalk.iteOmega,d3,d4];refine(a9X Tw _ ra _ rc (nth [] ks' i) (w.heap.size+1) (k:Int) g (orow.ex ⟨x,rfl⟩) om0 (i7 ⟨x,rfl⟩ bh) om0).mono ?_;rintro e w1' ⟨rfl,hg1,o1⟩;exact⟨_,rfl,ak7 hg1 hD,by simp[upd],o1,y9 5⟩
    ·have d1:=hdeep 1 kr0;have d2:=hdeep 2 kr0;simp only[klΦ,got]at d1 d2;simp[go_sem]at d1 d2;unfold Oper.wp;simp[go_sem,execOp,Act.eval,↓IntWalk.iteOmega,d1,d2,ii];exact⟨_,rfl,t7 (j5 _),by simp[klΦ,upd]⟩
   case fin=>
    rintro t D w9 hDa hg hΦ;have r0:=hΦ 0 dc0;have r1:=hΦ 1 dc0;have r2:=hΦ 2 dc0;have r3:=hΦ 3 dc0;have r4:=hΦ 4 dc0;have r6:=hΦ 6 dc0;simp only[klΦ]at r0 r1 r2 r3 r4 r6;obtain⟨r5,o9,hD9⟩:=hΦ 5 dc0;simp only[zh,List.take_succ_cons,List.take_zero,List.drop_succ_cons,List.drop_zero,r0,r1,r2,r3,r4,r5,r6];simp only[Act.put];simp only[List.setIfInBounds_toArray,List.set_cons_succ,List.set_cons_zero];clear hΦ r0 r1 r2 r3 r4 r5 r6;have bK9:=qI hg nK hkbb;have ck9:=V6 (Zi hI.kh hg nK).lay hil;have zk9:=j9 (i:=i) bK9;have lk9:=qi bK9;have hI9:=hI.upd (r:=⟨ra,(v7 ((k:Int),g) (nth [] ks' i)).length,rc⟩) (l:=v7 ((k:Int),g) (nth [] ks' i)) hil hg.grow (fun q hq=>by rw[hre];exact(hgq q hq).2.2.1) (.inl (by rw[hre])) o9;have ox9:=(ab8 ox hg.grow (fun q hq=>(hgq q hq).2.2.2) dc0).set_other (i:=i) (u:=.slice ra (v7 ((k:Int),g) (nth [] ks' i)).length rc) bK9 dc0;have nKP:kb≠pm:=fun e=>by rw[←e,hkbb]at bv;cases bv
    have nKH:kb≠w.heap.size+1:=om0;have nKR:kb≠w.heap.size+1+1:=om0;have bv9:=(qd (w:=w9) (i:=i) (u:=.slice ra (v7 ((k:Int),g) (nth [] ks' i)).length rc) nKP).trans (qI hg nP bv);have bh9:=(qd (w:=w9) (i:=i) (u:=.slice ra (v7 ((k:Int),g) (nth [] ks' i)).length rc) nKH).trans (qI hg nH bh);have br9:=(qd (w:=w9) (i:=i) (u:=.slice ra (v7 ((k:Int),g) (nth [] ks' i)).length rc) nKR).trans (qI hg nR br);have hx9:∃y,w9.setCell ⟨kb,i,none⟩ (.slice ra (v7 ((k:Int),g) (nth [] ks' i)).length rc)=plus w y:=qb (ZF hg hx (fun q hq=>by have:=hgq q hq;omega)) om0;go_wp2;go_roundw
    case rel=>
     refine⟨i+1,hs'.set i ⟨ra,(v7 ((k:Int),g) (nth [] ks' i)).length,rc⟩,ks'.set i (v7 ((k:Int),g) (nth [] ks' i)),om0,by go_num,hI9,ox9,bv9,bh9,br9,hx9,fun j=>?_⟩;rw[qR (by rw[hI.kl];exact hil)];by_cases ej:j=i
     ·subst ej;rw[if_pos rfl,if_pos om0,hks j,if_neg om0]
     ·rw[if_neg ej,hks j];by_cases hj:j<i
      ·rw[if_pos hj,if_pos om0]
      ·rw[if_neg hj,if_neg om0]
    case measure=>simp[intOf];omega
end
end Go.Proofs.YtcekcihijdipoaaGreat
