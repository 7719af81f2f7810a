/- A pack of texts: Open3, Open4, Ed6, Tx4, Ed7, Mesh14. -/
import Derived.SizedLaws
import Derived.Test.YtcekcihijdipoaaGreatPD12
namespace Go.Proofs.YtcekcihijdipoaaGreat
set_option maxRecDepth 100000
set_option maxHeartbeats 16000000
section
open Go.RowKit Go.ChangeShapes Go.WideShapes Go.ChangeAt Go.Deep
section
variable {H:Type} {enc:TypeId × Value→H} {P:Program} {W:World} {base:Nat} {spare:Nat→Bool} {held:Bool} {f0 f1 g0:Field} {t e ta:TypeId}
theorem a3R{fuel:Nat}{x:DataW H × List MemPlace}{c0 c1:Value}(hs:P.underlying t=some (.struct #[f0,f1]))(hone:oneCellFields P #[f0,f1]=true)(hk:P.underlying f0.type=some (.int .i64))(hi:P.underlying f1.type=some .bool)
  (h:DataW.trod enc P W base spare held fuel t [c0,c1]=some x):∃s:Sl,[c0,c1]=fS s:=by
 obtain⟨y0,y1,n,hx,_,h0,h1⟩:=trod_struct2 hs h;obtain⟨o0,k0⟩:=hone_of hone 0 f0 rfl;obtain⟨o1,k1⟩:=hone_of hone 1 f1 rfl;have h0':DataW.trod enc P W base spare held n f0.type [c0]=some y0:=by simpa [o0,k0]using h0
 have h1':DataW.trod enc P W base spare held n f1.type [c1]=some y1:=by simpa [o1,k1]using h1
 obtain⟨k,ek,_,wk⟩:=DataW.trod_int hk h0';obtain rfl:c0=.int .i64 k:=by simpa using ek
 obtain⟨b,eb,_⟩:=DataW.trod_bool hi h1';obtain rfl:c1=.bool b:=by simpa using eb
 exact⟨⟨k,b⟩,rfl⟩
theorem a4i{ao:Option Addr}{n:Nat}(hs:P.underlying t=some (.struct #[f0,f1]))(hone:oneCellFields P #[f0,f1]=true)(hk:P.underlying f0.type=some (.int .i64))(hi:P.underlying f1.type=some .bool)
  (h:QZ W ao n 2 (fun cs=>∃m y,DataW.trod enc P W base spare held m t cs=some y)):∃l:List Sl,Lay fS W ao n l:=by
 obtain⟨l,hl,_⟩:=Qm (f:=fS) (R:=fun _=>True) dSl dc0 a1s h (by
  rintro cs hl ⟨m,y,hy⟩
  match cs,hl,hy with
  |[a,b],_,hy=>
   obtain⟨s,e1⟩:=a3R hs hone hk hi hy;exact⟨s,e1,trivial⟩)
 exact⟨l,hl⟩
end
end
section
open Go.RowKit Go.ChangeShapes Go.WideShapes Go.ChangeAt Go.Deep
section
variable {H:Type} {enc:TypeId × Value→H} {P:Program} {W:World} {base:Nat} {spare:Nat→Bool} {held:Bool} {f0 f1 g0 s0 s1:Field} {t e ta tg ts te:TypeId}
def Sm (P:Program) (t:TypeId) (d:DataW H):Prop:=∀x,x∈d.weights P t→x≤reachBytes
theorem a9t{ts:List TypeId}{ds:List (DataW H)}(h:(DataW.weightsEach P ts ds).all (fun x=>decide (x≤reachBytes))=true){j:Nat}{d:DataW H}(ht:ts[j]?=some t)(hd:ds[j]?=some d):Sm P t d:=by
 intro x hx;have:=List.all_eq_true.1 h x (DataW.weights_mem_each ht hd x hx)
 simpa using this
theorem a4M{d:DataW H}{x:Nat}:∀{l:List (DataW H)},d∈l→x∈d.weights P e→x∈DataW.weightsAll P e l
 |[],h,_=>by simp at h
 |a::l,h,hx=>by
  rw[DataW.weightsAll,List.mem_append];rcases List.mem_cons.1 h with rfl|h
  ·exact .inl hx
  ·exact .inr (a4M h hx)
theorem a2H{fs:Array Field}{parts:List (DataW H)}(hu:P.underlying t=some (.struct fs))(h:Sm P t (.agg parts)){j:Nat}{f:Field}{d:DataW H}(hf:fs[j]?=some f)(hd:parts[j]?=some d):Sm P f.type d:=by
 intro x hx;refine h x ?_;simp only[DataW.weights,hu];exact DataW.weights_mem_each (j:=j) (t:=f.type) (by simp[hf]) hd x hx
theorem a2M{c fuel:Nat}{v:Value}{x:DataW H × List MemPlace}(ht:P.underlying t=some (.slice e))(hc:P.cellsOf e=c)(hc0:0<c)(h:DataW.trod enc P W base spare held fuel t [v]=some x)(hS:Sm P t x.1):
  ∃(ao:Option Addr) (n cap:Nat),v=.slice ao n cap∧n≤9223372036854775807∧n≤cap∧n*P.bytesOf e≤reachBytes∧(ao=none→n=0∧cap=0)∧QZ W ao n c (fun cs=>∃m y,DataW.trod enc P W base spare held m e cs=some y∧Sm P e y.1):=by
 rcases Go.Deep.open_slice ht h with⟨h0,_⟩|⟨a,len,cap,m,n,D,Pl,h0,hb,hl,hm,hmm,hx,hall⟩
 ·obtain rfl:v=.slice none 0 0:=by simpa using h0
  exact⟨none,0,0,rfl,dc0,Nat.le_refl _,by simp,fun _=>⟨rfl,rfl⟩,.inl rfl⟩
 ·obtain rfl:v=.slice (some a) len cap:=by simpa using h0
  have hlm:len≤m:=by rw[hmm];split<;>omega
  rw[hx]at hS;have hw:len*P.bytesOf e≤reachBytes:=by
   have h1:=hS ((len+(m - len))*P.bytesOf e) (by simp[DataW.weights,ht]);exact Nat.le_trans (Nat.mul_le_mul_right _ (Nat.le_add_right _ _)) h1
  refine⟨some a,len,cap,rfl,by unfold maxLen at hm;omega,hl,hw,(fun h=>by cases h),?_⟩;by_cases hz:len=0
  ·exact .inl hz
  right;obtain⟨cs0,hc1,_⟩:=hall 0 om0;rw[hc]at hc1;obtain⟨_,hl1,hcell⟩:=World.cells?_some hc1;have hcell0:=hcell 0 hc0;rw[List.getElem?_eq_getElem om0]at hcell0;simp only[Nat.zero_mul,Addr.add,if_true]at hcell0;obtain⟨ea,hlt⟩:=a0N hcell0;refine⟨a.block,a.off,by rw[←ea],hlt,fun i hi=>?_⟩;obtain⟨cs,hc2,htr⟩:=hall i om0;rw[hc]at hc2;obtain⟨_,hl2,hcell2⟩:=World.cells?_some hc2;refine⟨cs,hl2,fun j hj=>?_,n,_,htr,fun y hy=>hS y ?_⟩
  ·have hcj:=hcell2 j hj;rw[ea,ac5,ac5,Nat.add_assoc]at hcj;exact hcj
  ·simp only[DataW.weights,ht,List.mem_cons,List.mem_append];exact .inr (.inl (a4M (d:=D i) (List.mem_map.2 ⟨i,List.mem_range.2 hi,rfl⟩) hy))
structure a4d (w:World) (ao:Option Addr) (n:Nat) (ko:Option Addr) (kn:Nat) (hs:List RH) (g:Gr):Prop where
 sl:Lay fS w ao n g.sl
 kh:Lay fR w ko kn hs
 len:hs.length=g.ks.length
 row:∀k,k<hs.length→Lay f2 w (nth dRH hs k).ao (nth dRH hs k).n (nth [] g.ks k)
 n1:n≤9223372036854775807
 n2:kn≤9223372036854775807
 n3:∀k,k<hs.length→(nth dRH hs k).n≤8796093022208
 n4:∀k,k<hs.length→(nth dRH hs k).n≤(nth dRH hs k).cap
 n5:∀k,k<hs.length→(nth dRH hs k).ao=none→(nth dRH hs k).n=0∧(nth dRH hs k).cap=0
theorem a4d.few{w:World}{ao:Option Addr}{n:Nat}{ko:Option Addr}{kn:Nat}{hs:List RH}{g:Gr}(h:a4d w ao n ko kn hs g)(hg:R5 n kn hs=false):QL w ao n ko kn hs g:=by
 obtain⟨h1,h2,h3⟩:=a6B hg;refine⟨h.sl,h.kh,h.len,h.row,om0,om0,fun k hk=>?_,h.n4,h.n5⟩;rw[h.kh.len]at hk;have:=a8C hs hk;omega
theorem a5p{fuel:Nat}{x:DataW H × List MemPlace}{c0:Value}(ht:P.underlying t=some (.slice e))(hc:P.cellsOf e=2)(hf:ak0 P 4 e=true)(hb:P.bytesOf e=16)(h:DataW.trod enc P W base spare held fuel t [c0]=some x)(hS:Sm P t x.1):
  ∃r:RH,[c0]=fR r∧∃l:List (Int × Int),Lay f2 W r.ao r.n l∧r.n≤8796093022208∧r.n≤r.cap∧(r.ao=none→r.n=0∧r.cap=0):=by
 obtain⟨ao,n,cap,rfl,_,h2,h3,h4,h5⟩:=a2M ht hc dc0 h hS;have h5':QZ W ao n 2 (fun cs=>∃m y,DataW.trod enc P W base spare held m e cs=some y):=by
  rcases h5 with h|⟨g,off,e1,hg,h⟩
  ·exact .inl h
  ·exact .inr ⟨g,off,e1,hg,fun i hi=>by obtain⟨cs,a,b,m,y,c,_⟩:=h i hi;exact⟨cs,a,b,m,y,c⟩⟩
 obtain⟨l,hl⟩:=a2A hf h5';rw[hb]at h3;exact⟨⟨ao,n,cap⟩,rfl,l,hl,by unfold reachBytes at h3;simp only;omega,h2,h4⟩
end
end
open Go.RowKit Go.ChangeShapes Go.WideShapes Go.ChangeAt
set_option linter.unusedSimpArgs false
set_option linter.unusedVariables false
attribute [local go_sem] qn qZ A2 zg zz zA t5 qJ zf qO qD t6
section
theorem a73{w:World}{g o n k:Nat}{l:List NH}(hn:l.length=n)(h:∀j u,(l.flatMap fN)[j]?=some u→w.cell? ⟨g,o+j,none⟩=some u)(hk:k<n):w.cell? ⟨g,o+k*33+17,none⟩=some (.slice (nth nh0 l k).ao (nth nh0 l k).n (nth nh0 l k).cap):=by
 have h0:=A6 (d:=nh0) hn ag0 h k 17 _ hk dc0 rfl;rwa[←Nat.add_assoc]at h0
def a21 (hs:List MH) (ps:List (List PH)) (k:Nat):Bool:=K3 (nth mh0 hs k).vn (nth mh0 hs k).un (nth mh0 hs k).pn (nth [] ps k)
def K1 (h:SH) (x:SX):Bool:=R5 h.gn h.kn x.gr||(decide (200<h.nn)||(decide (60<h.mn)||(decide (60<h.tn)||(Y9 x.th||(x.nh.any (fun q=>decide (200<q.n))||(List.range x.mh.length).any (a21 x.mh x.ph))))))
theorem QF{w:World}{h:MH}{hs:List PH}{m:Ms}(hm:I6 w h hs m):Calls Tryz.prog 34 #[.agg #[.slice h.va h.vn h.vc,.slice h.ua h.un h.uc,.slice h.pa h.pn h.pc]] w fun e w'=>e=.returned (.bool (K3 h.vn h.un h.pn hs))∧Below w.heap.size w w':=
 a0L _ _ _ _ _ _ _ _ _ hs m w hm
theorem aq0(h:SH)(x:SX)(s:Sc)(w:World)(hG:a4d w h.ga h.gn h.ka h.kn x.gr s.g)(hR:QK w h x s):
  Calls Tryz.prog 13 #[vS h] w fun e w'=>e=.returned (.bool (K1 h x))∧∃y,w'=plus w y:=by
 obtain⟨ga,gn,gc,ka,kn,kc,na,nn,nc,ma,mn,mc,ta,tn,tc,r0,r1⟩:=h;have nl:=hR.nl;have ns:=hR.ns;have ml:=hR.ml;have ms:=hR.ms;have tl:=hR.tl;have ts:=hR.ts;have n1:=hR.n1;have n2:=hR.n2;have n3:=hR.n3;simp only at nl ml ms tl ts n1 n2 n3 hG;clear hR;have nlen:=nl.len;have mlen:=ml.len;have mlen2:=ms.len;have tlen:=tl.len;have htn:∀k,k<tn→(nth th0 x.th k).n≤9223372036854775807:=fun k hk=>(ts.one k om0).tx.le
 have hgn:=hG.n1;have hkn:=hG.n2;have hgk:=hG.kh;have hgr:∀k,k<kn→(nth dRH x.gr k).n≤8796093022208:=fun k hk=>hG.n3 k (by rw[hgk.len];exact hk)
 replace htn:=qw.mk htn
 replace hgr:=qw.mk hgr
 clear hG;unfold vS;simp only;cases hg:R5 gn kn x.gr;rotate_left
 ·go_enter Tryz.func13,Tryz.ntmps13;go_wp2_with (first|(go_at_call 32;refine pm0 (Qj _ _ _ _ _ _ x.gr _ (hgk.ex sk9) hgn hkn hgr.it) fun nx=>?_;rw[hg])|(go_at_call 33;refine pq0 (B8 _ _ _ x.th _ (tl.ex sk9) n3 htn.it) fun nx=>?_;rw[hgt]));go_ret;exact⟨by rw[show K1 ⟨ga,gn,gc,ka,kn,kc,na,nn,nc,ma,mn,mc,ta,tn,tc,r0,r1⟩ x=true by simp[K1,hg]];rfl,sk9⟩
 by_cases b1:200<nn
 ·have i1:(200:Int)<(nn:Int):=om0;go_enter Tryz.func13,Tryz.ntmps13;go_wp2_with (first|(go_at_call 32;refine pm0 (Qj _ _ _ _ _ _ x.gr _ (hgk.ex sk9) hgn hkn hgr.it) fun nx=>?_;rw[hg])|(go_at_call 33;refine pq0 (B8 _ _ _ x.th _ (tl.ex sk9) n3 htn.it) fun nx=>?_;rw[hgt]));go_ret;exact⟨by rw[show K1 ⟨ga,gn,gc,ka,kn,kc,na,nn,nc,ma,mn,mc,ta,tn,tc,r0,r1⟩ x=true by simp[K1,b1]];rfl,sk9⟩
 have i1:¬(200:Int)<(nn:Int):=om0;by_cases b2:60<mn
 ·have i2:(60:Int)<(mn:Int):=om0;go_enter Tryz.func13,Tryz.ntmps13;go_wp2_with (first|(go_at_call 32;refine pm0 (Qj _ _ _ _ _ _ x.gr _ (hgk.ex sk9) hgn hkn hgr.it) fun nx=>?_;rw[hg])|(go_at_call 33;refine pq0 (B8 _ _ _ x.th _ (tl.ex sk9) n3 htn.it) fun nx=>?_;rw[hgt]));go_ret;exact⟨by rw[show K1 ⟨ga,gn,gc,ka,kn,kc,na,nn,nc,ma,mn,mc,ta,tn,tc,r0,r1⟩ x=true by simp[K1,b2]];rfl,sk9⟩
 have i2:¬(60:Int)<(mn:Int):=om0;by_cases b3:60<tn
 ·have i3:(60:Int)<(tn:Int):=om0;go_enter Tryz.func13,Tryz.ntmps13;go_wp2_with (first|(go_at_call 32;refine pm0 (Qj _ _ _ _ _ _ x.gr _ (hgk.ex sk9) hgn hkn hgr.it) fun nx=>?_;rw[hg])|(go_at_call 33;refine pq0 (B8 _ _ _ x.th _ (tl.ex sk9) n3 htn.it) fun nx=>?_;rw[hgt]));go_ret;exact⟨by rw[show K1 ⟨ga,gn,gc,ka,kn,kc,na,nn,nc,ma,mn,mc,ta,tn,tc,r0,r1⟩ x=true by simp[K1,b3]];rfl,sk9⟩
 have i3:¬(60:Int)<(tn:Int):=om0;cases hgt:Y9 x.th;rotate_left
 ·go_enter Tryz.func13,Tryz.ntmps13;go_wp2_with (first|(go_at_call 32;refine pm0 (Qj _ _ _ _ _ _ x.gr _ (hgk.ex sk9) hgn hkn hgr.it) fun nx=>?_;rw[hg])|(go_at_call 33;refine pq0 (B8 _ _ _ x.th _ (tl.ex sk9) n3 htn.it) fun nx=>?_;rw[hgt]));go_ret;exact⟨by rw[show K1 ⟨ga,gn,gc,ka,kn,kc,na,nn,nc,ma,mn,mc,ta,tn,tc,r0,r1⟩ x=true by simp[K1,hgt]];rfl,sk9⟩
 have hres:K1 ⟨ga,gn,gc,ka,kn,kc,na,nn,nc,ma,mn,mc,ta,tn,tc,r0,r1⟩ x=(x.nh.any (fun q=>decide (200<q.n))||(List.range mn).any (a21 x.mh x.ph)):=by simp[K1,hg,b1,b2,b3,hgt,mlen]
 rw[hres];clear hres;go_enter Tryz.func13,Tryz.ntmps13;go_wp2_with (first|(go_at_call 32;refine pm0 (Qj _ _ _ _ _ _ x.gr _ (hgk.ex sk9) hgn hkn hgr.it) fun nx=>?_;rw[hg])|(go_at_call 33;refine pq0 (B8 _ _ _ x.th _ (tl.ex sk9) n3 htn.it) fun nx=>?_;rw[hgt]));go_loopw [3] (fun i wr=>∃k:Nat,k≤nn∧i=.int .i64 k∧(∀j,j<k→decide (200<(nth nh0 x.nh j).n)=false)∧∃y,wr=plus (w.alloc (.cells #[.slice ga gn gc,.slice ka kn kc,.slice na nn nc,.slice ma mn mc,.slice ta tn tc,.int .i64 r0,.int .i64 r1] 34)) y) (fun i _=>nn - (intOf i).toNat)
 case atStart=>exact⟨0,Nat.zero_le _,rfl,fun j hj=>om0,sk9⟩
 case round=>
  obtain⟨k,hk,rfl,hs,y,rfl⟩:=hrel;by_cases hkl:k<nn
  ·obtain⟨g,off,rfl,hgl,hcell⟩:=nl.some om0;have c0:=a73 nlen hcell hkl;have ik:(k:Int)<(nn:Int):=om0;by_cases h2:200<(nth nh0 x.nh k).n
   ·have j2:(200:Int)<((nth nh0 x.nh k).n:Int):=om0;go_wp2;go_ret;exact⟨by rw[show x.nh.any (fun q=>decide (200<q.n))=true from List.any_eq_true.2 ⟨_,F3 (d:=nh0) (k:=k) om0,decide_eq_true h2⟩];rfl,sk9⟩
   ·have j2:¬(200:Int)<((nth nh0 x.nh k).n:Int):=om0;go_wp2;go_roundw
    case rel=>exact⟨k+1,om0,by go_num,zX hs (decide_eq_false h2),sk9⟩
    case measure=>simp[intOf];omega
  ·have ik:¬(k:Int)<(nn:Int):=om0;obtain rfl:nn=k:=om0;have hall:x.nh.any (fun q=>decide (200<q.n))=false:=List.any_eq_false.2 (fun q hq=>by(obtain⟨i,hi,rfl⟩:=List.getElem_of_mem hq);(have h5:=hs i om0);rw[Qv hi]at h5;rw[h5];decide)
   replace hall:=qw.mk hall
   clear hs;go_wp2;go_loopw [4] (fun i wr=>∃k:Nat,k≤mn∧i=.int .i64 k∧(∀j,j<k→a21 x.mh x.ph j=false)∧∃y,wr=plus (w.alloc (.cells #[.slice ga gn gc,.slice ka kn kc,.slice na nn nc,.slice ma mn mc,.slice ta tn tc,.int .i64 r0,.int .i64 r1] 34)) y) (fun i _=>mn - (intOf i).toNat)
   case atStart=>exact⟨0,Nat.zero_le _,rfl,fun j hj=>om0,sk9⟩
   case round=>
    obtain⟨k2,hk2,rfl,hs2,y2,rfl⟩:=hrel;by_cases hkl2:k2<mn
    ·obtain⟨g,off,rfl,hgl,hcell⟩:=ml.some om0;obtain⟨c0,c1,c2⟩:=a0p mlen hcell hkl2;have hone:=ms.one k2 om0;have ik2:(k2:Int)<(mn:Int):=om0;cases hmg:a21 x.mh x.ph k2
     ·have hq:K3 (nth mh0 x.mh k2).vn (nth mh0 x.mh k2).un (nth mh0 x.mh k2).pn (nth [] x.ph k2)=false:=hmg;go_wp2_with (go_at_call 34;refine pm0 (QF (hone.ex sk9)) fun nx=>?_;rw[hq]);go_roundw
      case rel=>exact⟨k2+1,om0,by go_num,zX hs2 hmg,sk9⟩
      case measure=>simp[intOf];omega
     ·have hq:K3 (nth mh0 x.mh k2).vn (nth mh0 x.mh k2).un (nth mh0 x.mh k2).pn (nth [] x.ph k2)=true:=hmg;go_wp2_with (go_at_call 34;refine pm0 (QF (hone.ex sk9)) fun nx=>?_;rw[hq]);go_ret;exact⟨by rw[hall.it,show(List.range mn).any (a21 x.mh x.ph)=true from List.any_eq_true.2 ⟨k2,List.mem_range.2 om0,hmg⟩];rfl,sk9⟩
    ·have ik2:¬(k2:Int)<(mn:Int):=om0;go_wp2;go_ret;exact⟨by rw[hall.it,show(List.range mn).any (a21 x.mh x.ph)=false from List.any_eq_false.2 (fun i hi=>by rw[hs2 i (by have:=List.mem_range.1 hi;omega)];decide)];rfl,sk9⟩
end
section
attribute [local go_sem] ao7
attribute [local go_sem] colc_50
attribute [local go_sem] cole_50
attribute [local go_sem] coln_50
theorem a8e{W H W2 H2:Int}{l l2:List Cl}(h:¬W=W2):ac7 W H l W2 H2 l2=false:=by simp[ac7,h]
theorem a8j{W H W2 H2:Int}{l l2:List Cl}(h:¬H=H2):ac7 W H l W2 H2 l2=false:=by simp[ac7,h]
theorem a6U{W H W2 H2:Int}{l l2:List Cl}(h:a34 l l2=false):ac7 W H l W2 H2 l2=false:=by simp[ac7,h]
theorem a7I{W H:Int}{l l2:List Cl}:ac7 W H l W H l2=a34 l l2:=by simp[ac7]
theorem a0s(W H:Int)(ao:Option Addr)(n cap:Nat)(l:List Cl)(W2 H2:Int)(ao2:Option Addr)(n2 cap2:Nat)(l2:List Cl)(w:World)(hl:Lay fCl w ao n l)(hl2:Lay fCl w ao2 n2 l2)(hn:n≤9223372036854775807)(hn2:n2≤9223372036854775807):
  Calls Tryz.prog 103 #[.agg #[.int .i64 W,.int .i64 H,.slice ao n cap],.agg #[.int .i64 W2,.int .i64 H2,.slice ao2 n2 cap2]] w fun e w'=>e=.returned (.bool (ac7 W H l W2 H2 l2))∧∃y,w'=plus w y:=by
 have hlen:=hl.len;have hlen2:=hl2.len;by_cases hw:W=W2;rotate_left
 ·rw[a8e hw];have dq:(W==W2)=false:=by rw[beq_eq_false_iff_ne];exact hw
  go_enter Tryz.func103,Tryz.ntmps103;go_wp2;go_ret;exact⟨rfl,sk9⟩
 by_cases hh:H=H2;rotate_left
 ·rw[a8j hh];have dq:(H==H2)=false:=by rw[beq_eq_false_iff_ne];exact hh
  subst hw;go_enter Tryz.func103,Tryz.ntmps103;go_wp2;go_ret;exact⟨rfl,sk9⟩
 subst hw hh;by_cases hne:n=n2;rotate_left
 ·rw[a6U (L2 om0)];have dne:((n:Int)==(n2:Int))=false:=by rw[beq_eq_false_iff_ne];omega
  go_enter Tryz.func103,Tryz.ntmps103;go_wp2;go_ret;exact⟨rfl,sk9⟩
 subst hne;rw[a7I];go_enter Tryz.func103,Tryz.ntmps103;go_wp2;go_loopw [5] (fun i wr=>∃k:Nat,k≤n∧i=.int .i64 k∧(∀j,j<k→a8U (nth cl0 l j) (nth cl0 l2 j)=true)∧∃x,wr=plus ((w.alloc (.cells #[.int .i64 W,.int .i64 H,.slice ao n cap] 64)).alloc (.cells #[.int .i64 W,.int .i64 H,.slice ao2 n cap2] 64)) x) (fun i _=>n - (intOf i).toNat)
 case atStart=>exact⟨0,Nat.zero_le _,rfl,fun j hj=>om0,sk9⟩
 case round=>
  obtain⟨k,hk,rfl,hs,x,rfl⟩:=hrel;by_cases hkl:k<n
  ·obtain⟨g,off,rfl,hg,hcell⟩:=hl.some om0;obtain⟨g2,off2,rfl,hg2,hcell2⟩:=hl2.some om0;have ik:(k:Int)<(n:Int):=om0;obtain⟨c0,c1,c2,c3⟩:=a7t hlen hcell hkl;obtain⟨d0,d1,d2,d3⟩:=a7t hlen2 hcell2 hkl;cases hq:a8U (nth cl0 l k) (nth cl0 l2 k)
   ·have hq':a36 (nth cl0 l k).r (nth cl0 l k).g (nth cl0 l k).b (nth cl0 l k).a (nth cl0 l2 k).r (nth cl0 l2 k).g (nth cl0 l2 k).b (nth cl0 l2 k).a=false:=hq;go_wp2;refine qg kr0 kr0 ?_
    (repeat(go_big_quiet_step (fail)))
    refine wpQuiet_nil ?_;rintro _ ⟨x2,rfl⟩;go_wp2;go_ret;exact⟨by rw[show a34 l l2=false from D7 (k:=k) om0 hq];rfl,sk9⟩
   ·have hq':a36 (nth cl0 l k).r (nth cl0 l k).g (nth cl0 l k).b (nth cl0 l k).a (nth cl0 l2 k).r (nth cl0 l2 k).g (nth cl0 l2 k).b (nth cl0 l2 k).a=true:=hq;go_wp2;refine qg kr0 kr0 ?_
    (repeat(go_big_quiet_step (fail)))
    refine wpQuiet_nil ?_;rintro _ ⟨x2,rfl⟩;go_wp2;go_roundw
    case rel=>exact⟨k+1,om0,by go_num,zX hs hq,sk9⟩
    case measure=>simp[intOf];omega
  ·have ik:¬(k:Int)<(n:Int):=om0;go_wp2;go_ret;exact⟨by rw[show a34 l l2=true from L0 om0 (fun j hj=>hs j om0)];rfl,sk9⟩
theorem a4E{W H:Int}{ao:Option Addr}{n cap:Nat}{l:List Cl}{W2 H2:Int}{ao2:Option Addr}{n2 cap2:Nat}{l2:List Cl}{w:World}{b:Bool}(h:ac7 W H l W2 H2 l2=b)(hl:Lay fCl w ao n l)(hl2:Lay fCl w ao2 n2 l2)(hn:n≤9223372036854775807)(hn2:n2≤9223372036854775807):
  Calls Tryz.prog 103 #[.agg #[.int .i64 W,.int .i64 H,.slice ao n cap],.agg #[.int .i64 W2,.int .i64 H2,.slice ao2 n2 cap2]] w fun e w'=>e=.returned (.bool b)∧∃y,w'=plus w y:=h▸a0s W H ao n cap l W2 H2 ao2 n2 cap2 l2 w hl hl2 hn hn2
end
section
theorem H9{ga ka na ma ta:Option Addr}{gn gc kn kc nn nc mn mc tn tc:Nat}{r0 r1 a b:Int}{l:List Sl}{w:World}{v:Bool}(h:qG l a b=v)(hl:Lay fS w ga gn l)(hn:gn≤1000):
  Calls Tryz.prog 91 #[.agg #[.slice ga gn gc,.slice ka kn kc,.slice na nn nc,.slice ma mn mc,.slice ta tn tc,.int .i64 r0,.int .i64 r1],.agg #[.int .i64 a,.int .i64 b]] w fun e w'=>e=.returned (.bool v)∧∃y,w'=plus w y:=by
 go_enter Tryz.func91,Tryz.ntmps91;go_wp2_with (go_at_call 140;refine pm0 (Zw h (hl.ex sk9) hn) fun nx=>?_);go_ret;exact⟨rfl,sk9⟩
def a1h (a b:Tp):Bool:=ac7 a.w a.h a.l b.w b.h b.l
def ZS (l l2:List Tp):Bool:=V4 a1h tp0 l l2
theorem a1e{w:World}{h h2:TH}{t t2:Tp}{b:Bool}(hb:a1h t t2=b)(a:ak5 w h t)(a2:ak5 w h2 t2):Calls Tryz.prog 103 #[.agg #[.int .i64 h.w,.int .i64 h.h,.slice h.ao h.n h.cap],.agg #[.int .i64 h2.w,.int .i64 h2.h,.slice h2.ao h2.n h2.cap]] w fun e w'=>e=.returned (.bool b)∧∃y,w'=plus w y:=by
 have hb':ac7 h.w h.h t.l h2.w h2.h t2.l=b:=by rw[a.we,a.he,a2.we,a2.he];exact hb
 exact a4E hb' a.tx.lay a2.tx.lay a.tx.le a2.tx.le
theorem S3(ao ao2:Option Addr)(n n2 cap cap2:Nat)(hs hs2:List TH)(ts ts2:List Tp)(w:World)(hl:Lay fTh w ao n hs)(hl2:Lay fTh w ao2 n2 hs2)(hT:ac4 w hs ts)(hT2:ac4 w hs2 ts2)(hn:n≤9223372036854775807)(hn2:n2≤9223372036854775807):
  Calls Tryz.prog 53 #[.slice ao n cap,.slice ao2 n2 cap2] w fun e w'=>e=.returned (.bool (ZS ts ts2))∧∃y,w'=plus w y:=by
 have hlen:=hl.len;have hlen2:=hl2.len;have tlen:=hT.len;have tlen2:=hT2.len;by_cases hne:n=n2;rotate_left
 ·rw[show ZS ts ts2=false from L2 om0];have dne:((n:Int)==(n2:Int))=false:=by rw[beq_eq_false_iff_ne];omega
  go_enter Tryz.func53,Tryz.ntmps53;go_wp2;go_ret;exact⟨rfl,sk9⟩
 subst hne;go_enter Tryz.func53,Tryz.ntmps53;go_wp2;go_loopw [5] (fun i wr=>∃k:Nat,k≤n∧i=.int .i64 k∧(∀j,j<k→a1h (nth tp0 ts j) (nth tp0 ts2 j)=true)∧∃y,wr=plus w y) (fun i _=>n - (intOf i).toNat)
 case atStart=>exact⟨0,Nat.zero_le _,rfl,fun j hj=>om0,sk9⟩
 case round=>
  obtain⟨k,hk,rfl,hs',y,rfl⟩:=hrel;by_cases hkl:k<n
  ·obtain⟨g,off,rfl,hg,hcell⟩:=hl.some om0;obtain⟨g2,off2,rfl,hg2,hcell2⟩:=hl2.some om0;obtain⟨c0,c1,c2⟩:=a0T hlen hcell hkl;obtain⟨d0,d1,d2⟩:=a0T hlen2 hcell2 hkl;have a1:=hT.one k om0;have a2:=hT2.one k om0;have ik:(k:Int)<(n:Int):=om0;cases hq:a1h (nth tp0 ts k) (nth tp0 ts2 k)
   ·go_wp2;refine qg kr0 kr0 ?_
    (repeat(go_big_quiet_step ((go_at_call 103;exact C9 (a1e hq (a1.ex sk9) (a2.ex sk9))))))
    refine wpQuiet_nil ?_;rintro _ ⟨x2,rfl⟩;go_wp2;go_ret;exact⟨by rw[show ZS ts ts2=false from D7 (k:=k) om0 hq];rfl,sk9⟩
   ·go_wp2;refine qg kr0 kr0 ?_
    (repeat(go_big_quiet_step ((go_at_call 103;exact C9 (a1e hq (a1.ex sk9) (a2.ex sk9))))))
    refine wpQuiet_nil ?_;rintro _ ⟨x2,rfl⟩;go_wp2;go_roundw
    case rel=>exact⟨k+1,om0,by go_num,zX hs' hq,sk9⟩
    case measure=>simp[intOf];omega
  ·have ik:¬(k:Int)<(n:Int):=om0;go_wp2;go_ret;exact⟨by rw[show ZS ts ts2=true from L0 om0 (fun j hj=>hs' j om0)];rfl,sk9⟩
end
section
attribute [local go_sem] eqarr_40 nearr_40 larr_40
attribute [local go_sem] eqarr_137 nearr_137 larr_137
attribute [local go_sem] isnil_47
attribute [local go_sem] isnil_57
attribute [local go_sem] isnil_58
attribute [local go_sem] isnil_59
theorem a2h(va ua pa:Option Addr)(vn vc un uc pn pc:Nat)(hs:List PH)(xa ya za:Option Addr)(xn xc yn yc zn zc:Nat)(gs:List PH)(m o:Ms)(w:World)(hm:I6 w ⟨va,vn,vc,ua,un,uc,pa,pn,pc⟩ hs m)(hm2:I6 w ⟨xa,xn,xc,ya,yn,yc,za,zn,zc⟩ gs o)(hf:a7e hs)(hg:a7e gs)(s1:vn≤1000)(s2:un≤1000)(s3:pn≤100)(s4:xn≤1000)(s5:yn≤1000)(s6:zn≤100):
  Calls Tryz.prog 54 #[.agg #[.slice va vn vc,.slice ua un uc,.slice pa pn pc],.agg #[.slice xa xn xc,.slice ya yn yc,.slice za zn zc]] w fun e w'=>e=.returned (.bool (E3 m o))∧Below w.heap.size w w':=by
 have hvl:Lay fV w va vn m.vs:=hm.vl;have hul:Lay f2 w ua un m.uv:=hm.ul;have hpl:Lay fP w pa pn hs:=hm.pl;have hpp:M3 w hs m.ps:=hm.pp;have hxl:Lay fV w xa xn o.vs:=hm2.vl;have hyl:Lay f2 w ya yn o.uv:=hm2.ul;have hql:Lay fP w za zn gs:=hm2.pl;have hqq:M3 w gs o.ps:=hm2.pp;have lv:=hvl.len;have lu:=hul.len;have lp:=hpl.len;have lpp:=hpp.len;have lx:=hxl.len;have ly:=hyl.len;have lq:=hql.len;have lqq:=hqq.len;by_cases e1:vn=xn;rotate_left
 ·rw[show E3 m o=false by rw[E3,show a2e m.vs o.vs=false from L2 om0,Bool.false_and,Bool.false_and]];have ie:¬(vn:Int)=(xn:Int):=om0;have de:((vn:Int)==(xn:Int))=false:=by rw[beq_eq_false_iff_ne];omega
  go_enter Tryz.func54,Tryz.ntmps54;go_wp2;go_ret;exact⟨rfl,skB⟩
 by_cases e2:un=yn;rotate_left
 ·rw[show E3 m o=false by rw[E3,show ZQ m.uv o.uv=false from L2 om0,Bool.and_false,Bool.false_and]];have i1:(vn:Int)=(xn:Int):=om0;have ie:¬(un:Int)=(yn:Int):=om0;have de:((un:Int)==(yn:Int))=false:=by rw[beq_eq_false_iff_ne];omega
  go_enter Tryz.func54,Tryz.ntmps54;go_wp2;go_ret;exact⟨rfl,skB⟩
 by_cases e3:pn=zn;rotate_left
 ·rw[show E3 m o=false by rw[E3,show au2 m.ps o.ps=false from L2 om0,Bool.and_false]];have i1:(vn:Int)=(xn:Int):=om0;have i2:(un:Int)=(yn:Int):=om0;have ie:¬(pn:Int)=(zn:Int):=om0;have de:((pn:Int)==(zn:Int))=false:=by rw[beq_eq_false_iff_ne];omega
  go_enter Tryz.func54,Tryz.ntmps54;go_wp2;go_ret;exact⟨rfl,skB⟩
 subst e1 e2 e3;go_enter Tryz.func54,Tryz.ntmps54;go_wp2;go_loopw [5] (fun i wr=>∃k:Nat,k≤vn∧i=.int .i64 k∧(∀j,j<k→eqV (nth zl m.vs j) (nth zl o.vs j)=true)∧∃x,wr=plus ((w.alloc (.cells #[.slice va vn vc,.slice ua un uc,.slice pa pn pc] 61)).alloc (.cells #[.slice xa vn xc,.slice ya un yc,.slice za pn zc] 61)) x) (fun i _=>vn - (intOf i).toNat)
 case atStart=>exact⟨0,Nat.zero_le _,rfl,fun j hj=>om0,skM⟩
 case round=>
  obtain⟨k,hk,rfl,hsame,x,rfl⟩:=hrel;by_cases hkl:k<vn
  ·have ik:(k:Int)<(vn:Int):=om0;obtain⟨g,off,rfl,hgl,hcell⟩:=hvl.some om0;obtain⟨g2,off2,rfl,hgl2,hcell2⟩:=hxl.some om0;obtain⟨c0,c1,c2⟩:=a5H hvl.len hcell hkl;obtain⟨d0,d1,d2⟩:=a5H hxl.len hcell2 hkl;by_cases q0:(nth zl m.vs k).x=(nth zl o.vs k).x;rotate_left
   ·have dq:((nth zl m.vs k).x==(nth zl o.vs k).x)=false:=by simp[q0]
    go_wp2;refine qg kr0 kr0 ?_
    (repeat(go_big_quiet_step (fail)))
    refine wpQuiet_nil ?_;rintro _ ⟨x2,rfl⟩;go_wp2;go_ret;exact⟨by rw[show E3 m o=false by rw[E3,show a2e m.vs o.vs=false from D7 (k:=k) om0 (by simp[eqV,q0]),Bool.false_and,Bool.false_and]];rfl,skB⟩
   by_cases q1:(nth zl m.vs k).y=(nth zl o.vs k).y;rotate_left
   ·have dq:((nth zl m.vs k).y==(nth zl o.vs k).y)=false:=by simp[q1]
    go_wp2;refine qg kr0 kr0 ?_
    (repeat(go_big_quiet_step (fail)))
    refine wpQuiet_nil ?_;rintro _ ⟨x2,rfl⟩;go_wp2;go_ret;exact⟨by rw[show E3 m o=false by rw[E3,show a2e m.vs o.vs=false from D7 (k:=k) om0 (by simp[eqV,q1]),Bool.false_and,Bool.false_and]];rfl,skB⟩
   by_cases q2:(nth zl m.vs k).z=(nth zl o.vs k).z;rotate_left
   ·have dq:((nth zl m.vs k).z==(nth zl o.vs k).z)=false:=by simp[q2]
    go_wp2;refine qg kr0 kr0 ?_
    (repeat(go_big_quiet_step (fail)))
    refine wpQuiet_nil ?_;rintro _ ⟨x2,rfl⟩;go_wp2;go_ret;exact⟨by rw[show E3 m o=false by rw[E3,show a2e m.vs o.vs=false from D7 (k:=k) om0 (by simp[eqV,q2]),Bool.false_and,Bool.false_and]];rfl,skB⟩
   go_wp2;refine qg kr0 kr0 ?_
   (repeat(go_big_quiet_step (fail)))
   refine wpQuiet_nil ?_;rintro _ ⟨x2,rfl⟩;go_wp2;go_roundw
   case rel=>exact⟨k+1,om0,by go_num,C4 hsame (by simp[eqV,q0,q1,q2]),skM⟩
   case measure=>simp[intOf];omega
  ·have ik:¬(k:Int)<(vn:Int):=om0;have hall1:∀j,j<vn→eqV (nth zl m.vs j) (nth zl o.vs j)=true:=fun j hj=>hsame j om0
   clear hsame;go_wp2;go_loopw [6] (fun i wr=>∃k:Nat,k≤un∧i=.int .i64 k∧(∀j,j<k→eq2 (nth (0,0) m.uv j) (nth (0,0) o.uv j)=true)∧∃x,wr=plus ((w.alloc (.cells #[.slice va vn vc,.slice ua un uc,.slice pa pn pc] 61)).alloc (.cells #[.slice xa vn xc,.slice ya un yc,.slice za pn zc] 61)) x) (fun i _=>un - (intOf i).toNat)
   case atStart=>exact⟨0,Nat.zero_le _,rfl,fun j hj=>om0,skM⟩
   case round=>
    obtain⟨k,hk,rfl,hsame,x,rfl⟩:=hrel;by_cases hkl:k<un
    ·have ik:(k:Int)<(un:Int):=om0;obtain⟨g,off,rfl,hgl,hcell⟩:=hul.some om0;obtain⟨g2,off2,rfl,hgl2,hcell2⟩:=hyl.some om0;obtain⟨c0,c1⟩:=Y4 hul.len hcell hkl;obtain⟨d0,d1⟩:=Y4 hyl.len hcell2 hkl;by_cases q0:(nth (0,0) m.uv k).1=(nth (0,0) o.uv k).1;rotate_left
     ·have dq:((nth (0,0) m.uv k).1==(nth (0,0) o.uv k).1)=false:=by simp[q0]
      go_wp2;refine qg kr0 kr0 ?_
      (repeat(go_big_quiet_step (fail)))
      refine wpQuiet_nil ?_;rintro _ ⟨x2,rfl⟩;go_wp2;go_ret;exact⟨by rw[show E3 m o=false by rw[E3,show ZQ m.uv o.uv=false from D7 (k:=k) om0 (by simp[eq2,q0]),Bool.and_false,Bool.false_and]];rfl,skB⟩
     by_cases q1:(nth (0,0) m.uv k).2=(nth (0,0) o.uv k).2;rotate_left
     ·have dq:((nth (0,0) m.uv k).2==(nth (0,0) o.uv k).2)=false:=by simp[q1]
      go_wp2;refine qg kr0 kr0 ?_
      (repeat(go_big_quiet_step (fail)))
      refine wpQuiet_nil ?_;rintro _ ⟨x2,rfl⟩;go_wp2;go_ret;exact⟨by rw[show E3 m o=false by rw[E3,show ZQ m.uv o.uv=false from D7 (k:=k) om0 (by simp[eq2,q1]),Bool.and_false,Bool.false_and]];rfl,skB⟩
     go_wp2;refine qg kr0 kr0 ?_
     (repeat(go_big_quiet_step (fail)))
     refine wpQuiet_nil ?_;rintro _ ⟨x2,rfl⟩;go_wp2;go_roundw
     case rel=>exact⟨k+1,om0,by go_num,C4 hsame (by simp[eq2,q0,q1]),skM⟩
     case measure=>simp[intOf];omega
    ·have ik:¬(k:Int)<(un:Int):=om0;have hall2:∀j,j<un→eq2 (nth (0,0) m.uv j) (nth (0,0) o.uv j)=true:=fun j hj=>hsame j om0
     clear hsame;go_wp2;go_loopw [7] (fun i wr=>∃k:Nat,k≤pn∧i=.int .i64 k∧(∀j,j<k→ag7 (nth dPr m.ps j) (nth dPr o.ps j)=true)∧∃x,wr=plus ((w.alloc (.cells #[.slice va vn vc,.slice ua un uc,.slice pa pn pc] 61)).alloc (.cells #[.slice xa vn xc,.slice ya un yc,.slice za pn zc] 61)) x) (fun i _=>pn - (intOf i).toNat)
     case atStart=>exact⟨0,Nat.zero_le _,rfl,fun j hj=>om0,skM⟩
     case round=>
      obtain⟨k,hk,rfl,hsame,x,rfl⟩:=hrel;by_cases hkl:k<pn
      ·have ik:(k:Int)<(pn:Int):=om0;obtain⟨g,off,rfl,hgl,hcell⟩:=hpl.some om0;obtain⟨g2,off2,rfl,hgl2,hcell2⟩:=hql.some om0;have hf1:=hf k om0;have hg1:=hg k om0;obtain⟨p0,p1⟩:=a1o hpl.len hcell (k:=k) om0;have hp:=hpp.one k (by rw[hpl.len];omega);generalize hpep:nth dPr m.ps k=pr at*;generalize hhep:nth dPH hs k=ph at*;obtain⟨pk,pA,pN,pC⟩:=ph;obtain⟨pk2,px⟩:=pr;obtain⟨hp1,hp2,hp3,hp4,hp5,hp6⟩:=hp;simp only at p0 p1 hp1 hp2 hp3 hp4 hp5 hp6;subst hp1;obtain⟨q0,q1⟩:=a1o hql.len hcell2 (k:=k) om0;have hq:=hqq.one k (by rw[hql.len];omega);generalize hpeq:nth dPr o.ps k=qr at*;generalize hheq:nth dPH gs k=qh at*;obtain⟨qk,qA,qN,qC⟩:=qh;obtain⟨qk2,qx⟩:=qr;obtain⟨hq1,hq2,hq3,hq4,hq5,hq6⟩:=hq;simp only at q0 q1 hq1 hq2 hq3 hq4 hq5 hq6;subst hq1;simp only at hf1 hg1;by_cases hkk:pk=qk;rotate_left
       ·have dk:(pk==qk)=false:=by rw[beq_eq_false_iff_ne];exact hkk
        have dk2:(pk !=qk)=true:=by rw[bne,dk];rfl
        have dk3:decide (pk=qk)=false:=decide_eq_false hkk;go_wp2;refine qg kr0 kr0 ?_
        (repeat(go_big_quiet_step ((go_at_call 62;exact C8 (zY _ _ _ _ _ _ px qx _ (hp6.ex skM) (hq6.ex skM) om0 om0)))))
        refine wpQuiet_nil ?_;rintro _ ⟨x2,rfl⟩;go_wp2;go_ret;exact⟨by rw[show E3 m o=false by rw[E3,show au2 m.ps o.ps=false from D7 (k:=k) om0 (by rw[hpep,hpeq];simp[ag7,hkk]),Bool.and_false]];rfl,skB⟩
       subst hkk;cases hi:W5 px qx
       ·go_wp2;refine qg kr0 kr0 ?_
        (repeat(go_big_quiet_step ((go_at_call 62;exact C8 (zY _ _ _ _ _ _ px qx _ (hp6.ex skM) (hq6.ex skM) om0 om0)))))
        refine wpQuiet_nil ?_;rintro _ ⟨x2,rfl⟩;go_wp2;go_ret;exact⟨by rw[show E3 m o=false by rw[E3,show au2 m.ps o.ps=false from D7 (k:=k) om0 (by rw[hpep,hpeq];simp[ag7,hi]),Bool.and_false]];rfl,skB⟩
       go_wp2;refine qg kr0 kr0 ?_
       (repeat(go_big_quiet_step ((go_at_call 62;exact C8 (zY _ _ _ _ _ _ px qx _ (hp6.ex skM) (hq6.ex skM) om0 om0)))))
       refine wpQuiet_nil ?_;rintro _ ⟨x2,rfl⟩;go_wp2;go_roundw
       case rel=>exact⟨k+1,om0,by go_num,C4 hsame (by rw[hpep,hpeq];simp[ag7,hi]),skM⟩
       case measure=>simp[intOf];omega
      ·have ik:¬(k:Int)<(pn:Int):=om0;have hall3:∀j,j<pn→ag7 (nth dPr m.ps j) (nth dPr o.ps j)=true:=fun j hj=>hsame j om0
       clear hsame;go_wp2;go_ret;exact⟨by rw[show E3 m o=true by rw[E3,show a2e m.vs o.vs=true from L0 om0 (fun j hj=>hall1 j om0),show ZQ m.uv o.uv=true from L0 om0 (fun j hj=>hall2 j om0),show au2 m.ps o.ps=true from L0 om0 (fun j hj=>hall3 j om0)];rfl];rfl,skB⟩
end
end Go.Proofs.YtcekcihijdipoaaGreat
