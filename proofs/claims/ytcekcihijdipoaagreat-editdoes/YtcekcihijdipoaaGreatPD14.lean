/- A pack of texts: Ed8, EdMath. -/
import Derived.Test.YtcekcihijdipoaaGreatPD13
namespace Go.Proofs.YtcekcihijdipoaaGreat
set_option maxRecDepth 100000
set_option maxHeartbeats 16000000
section
open Go.RowKit Go.ChangeShapes Go.WideShapes Go.ChangeAt
set_option linter.unusedSimpArgs false
set_option linter.unusedVariables false
attribute [local go_sem] qn qZ A2 zg zz zA t5 qJ zf qO qD t6
theorem F5{α:Type}{f:α→List Value}{d:α}{w:World}{g off n k c:Nat}{l:List α}(hl:l.length=n)(hc:∀x,(f x).length=c)(h:∀j u,(l.flatMap f)[j]?=some u→w.cell? ⟨g,off+j,none⟩=some u)(hk:k<n):
  ∀j v,(f (nth d l k))[j]?=some v→w.cell? ⟨g,off+k*c+j,none⟩=some v:=by
 intro j v hj;have hjc:j<c:=by rw[←hc (nth d l k)];exact(List.getElem?_eq_some_iff.1 hj).1
 rw[Nat.add_assoc];exact A6 (d:=d) hl hc h k j v hk hjc hj
def af5 (l l2:List Nd):Bool:=V4 z7 nd0 l l2
def ag2 (l l2:List Ms):Bool:=V4 E3 ms0 l l2
def Q6 (a b:Sc):Bool:=aq2 a.g b.g&&(ZS a.ts b.ts&&(decide (a.root=b.root)&&(af5 a.ns b.ns&&ag2 a.ms b.ms)))
structure a6n (x:SX):Prop where
 n:∀k,k<x.nh.length→(nth nh0 x.nh k).n≤10000
 m:∀k,k<x.mh.length→(nth mh0 x.mh k).vn≤1000∧(nth mh0 x.mh k).un≤1000∧(nth mh0 x.mh k).pn≤100∧a7e (nth [] x.ph k)
theorem a0X{w:World}{h h2:MH}{hs gs:List PH}{m o:Ms}{b:Bool}(hb:E3 m o=b)(hm:I6 w h hs m)(hm2:I6 w h2 gs o)(s1:h.vn≤1000∧h.un≤1000∧h.pn≤100∧a7e hs)(s2:h2.vn≤1000∧h2.un≤1000∧h2.pn≤100∧a7e gs):
  Calls Tryz.prog 54 #[.agg #[.slice h.va h.vn h.vc,.slice h.ua h.un h.uc,.slice h.pa h.pn h.pc],.agg #[.slice h2.va h2.vn h2.vc,.slice h2.ua h2.un h2.uc,.slice h2.pa h2.pn h2.pc]] w fun e w'=>e=.returned (.bool b)∧Below w.heap.size w w':=
 hb▸a2h _ _ _ _ _ _ _ _ _ hs _ _ _ _ _ _ _ _ _ gs m o w hm hm2 s1.2.2.2 s2.2.2.2 s1.1 s1.2.1 s1.2.2.1 s2.1 s2.2.1 s2.2.2.1
theorem aw3(h:SH)(x:SX)(s:Sc)(h':SH)(x':SX)(s':Sc)(w:World)(hG:QL w h.ga h.gn h.ka h.kn x.gr s.g)(hR:QK w h x s)(hS:a6n x)(hG':QL w h'.ga h'.gn h'.ka h'.kn x'.gr s'.g)(hR':QK w h' x' s')(hS':a6n x'):
  Calls Tryz.prog 19 #[vS h,vS h'] w fun e w'=>e=.returned (.bool (Q6 s s'))∧∃y,w'=plus w y:=by
 obtain⟨ga,gn,gc,ka,kn,kc,na,nn,nc,ma,mn,mc,ta,tn,tc,r0,r1⟩:=h;obtain⟨ga',gn',gc',ka',kn',kc',na',nn',nc',ma',mn',mc',ta',tn',tc',r0',r1'⟩:=h';have nl:=hR.nl;have ns:=hR.ns;have ml:=hR.ml;have ms:=hR.ms;have tl:=hR.tl;have ts:=hR.ts;have n3:=hR.n3;have n1:=hR.n1;have n2:=hR.n2;have hr:=hR.root;simp only at nl ml ms tl ts n1 n2 n3 hr hG;clear hR;have nlen:=nl.len;have nlen2:=ns.len;have mlen:=ml.len;have mlen2:=ms.len;have nl':=hR'.nl;have ns':=hR'.ns;have ml':=hR'.ml;have ms':=hR'.ms;have tl':=hR'.tl;have ts':=hR'.ts;have n3':=hR'.n3;have n1':=hR'.n1;have n2':=hR'.n2;have hr':=hR'.root;simp only at nl' ml' ms' tl' ts' n1' n2' n3' hr' hG';clear hR';have nlen':=nl'.len;have nlen2':=ns'.len;have mlen':=ml'.len;have mlen2':=ms'.len;unfold vS;simp only;obtain⟨bg,hbg⟩:∃b,aq2 s.g s'.g=b:=⟨_,rfl⟩;obtain⟨bt,hbt⟩:∃b,ZS s.ts s'.ts=b:=⟨_,rfl⟩;obtain⟨br,hbr⟩:∃b,eqh r0 r1 r0' r1'=b:=⟨_,rfl⟩;have qH:=aq9 hbr;have hroot:decide (s.root=s'.root)=br:=by
  rw[hr,hr',←hbr];by_cases e0:r0=r0'<;>by_cases e1:r1=r1'<;>simp[eqh,e0,e1]
 replace hbg:=qw.mk hbg
 replace hbt:=qw.mk hbt
 replace hroot:=qw.mk hroot
 clear hbr hr hr';cases bg
 ·go_enter Tryz.func19,Tryz.ntmps19;go_wp2_with (go_at_call 52;refine pm0 (Qb _ _ _ _ _ _ x.gr s.g _ _ _ _ _ _ x'.gr s'.g _ (hG.ex sk9) (hG'.ex sk9)) fun nx=>?_;rw[hbg.it]);go_ret;exact⟨by rw[show Q6 s s'=false by simp[Q6,hbg.it]];rfl,sk9⟩
 by_cases hnn:nn=nn';rotate_left
 ·have dne:((nn:Int)==(nn':Int))=false:=by rw[beq_eq_false_iff_ne];omega
  go_enter Tryz.func19,Tryz.ntmps19;go_wp2_with (go_at_call 52;refine pm0 (Qb _ _ _ _ _ _ x.gr s.g _ _ _ _ _ _ x'.gr s'.g _ (hG.ex sk9) (hG'.ex sk9)) fun nx=>?_;rw[hbg.it]);go_ret;exact⟨by rw[show Q6 s s'=false by simp[Q6,show af5 s.ns s'.ns=false from L2 om0]];rfl,sk9⟩
 by_cases hmn:mn=mn';rotate_left
 ·have dne:((mn:Int)==(mn':Int))=false:=by rw[beq_eq_false_iff_ne];omega
  subst hnn;go_enter Tryz.func19,Tryz.ntmps19;go_wp2_with (go_at_call 52;refine pm0 (Qb _ _ _ _ _ _ x.gr s.g _ _ _ _ _ _ x'.gr s'.g _ (hG.ex sk9) (hG'.ex sk9)) fun nx=>?_;rw[hbg.it]);go_ret;exact⟨by rw[show Q6 s s'=false by simp[Q6,show ag2 s.ms s'.ms=false from L2 om0]];rfl,sk9⟩
 subst hnn hmn;cases bt
 ·go_enter Tryz.func19,Tryz.ntmps19;go_wp2_with (first|(go_at_call 52;refine pm0 (Qb _ _ _ _ _ _ x.gr s.g _ _ _ _ _ _ x'.gr s'.g _ (hG.ex sk9) (hG'.ex sk9)) fun nx=>?_;rw[hbg.it])|(go_at_call 53;refine pq0 (S3 _ _ _ _ _ _ x.th x'.th s.ts s'.ts _ (tl.ex sk9) (tl'.ex sk9) (ts.ex sk9) (ts'.ex sk9) n3 n3') fun nx=>?_;rw[hbt.it]));go_ret;exact⟨by rw[show Q6 s s'=false by simp[Q6,hbt.it]];rfl,sk9⟩
 cases br
 ·go_enter Tryz.func19,Tryz.ntmps19;go_wp2_with (first|(go_at_call 52;refine pm0 (Qb _ _ _ _ _ _ x.gr s.g _ _ _ _ _ _ x'.gr s'.g _ (hG.ex sk9) (hG'.ex sk9)) fun nx=>?_;rw[hbg.it])|(go_at_call 53;refine pq0 (S3 _ _ _ _ _ _ x.th x'.th s.ts s'.ts _ (tl.ex sk9) (tl'.ex sk9) (ts.ex sk9) (ts'.ex sk9) n3 n3') fun nx=>?_;rw[hbt.it]));go_ret;exact⟨by rw[show Q6 s s'=false by simp only[Q6,hroot.it];simp];rfl,sk9⟩
 have hres:Q6 s s'=(af5 s.ns s'.ns&&ag2 s.ms s'.ms):=by simp only[Q6,hbg.it,hbt.it,hroot.it];simp
 replace hres:=qw.mk hres
 go_enter Tryz.func19,Tryz.ntmps19;go_wp2_with (first|(go_at_call 52;refine pm0 (Qb _ _ _ _ _ _ x.gr s.g _ _ _ _ _ _ x'.gr s'.g _ (hG.ex sk9) (hG'.ex sk9)) fun nx=>?_;rw[hbg.it])|(go_at_call 53;refine pq0 (S3 _ _ _ _ _ _ x.th x'.th s.ts s'.ts _ (tl.ex sk9) (tl'.ex sk9) (ts.ex sk9) (ts'.ex sk9) n3 n3') fun nx=>?_;rw[hbt.it]));go_loopw [5] (fun i wr=>∃k:Nat,k≤nn∧i=.int .i64 k∧(∀j,j<k→z7 (nth nd0 s.ns j) (nth nd0 s'.ns j)=true)∧∃y,wr=plus ((w.alloc (.cells #[.slice ga gn gc,.slice ka kn kc,.slice na nn nc,.slice ma mn mc,.slice ta tn tc,.int .i64 r0,.int .i64 r1] 34)).alloc (.cells #[.slice ga' gn' gc',.slice ka' kn' kc',.slice na' nn nc',.slice ma' mn mc',.slice ta' tn' tc',.int .i64 r0',.int .i64 r1'] 34)) y) (fun i _=>nn - (intOf i).toNat)
 case atStart=>exact⟨0,Nat.zero_le _,rfl,fun j hj=>om0,sk9⟩
 case round=>
  obtain⟨k,hk,rfl,hs1,y,rfl⟩:=hrel;by_cases hkl:k<nn
  ·obtain⟨g,off,rfl,hgl,hcell⟩:=nl.some om0;obtain⟨g',off',rfl,hgl',hcell'⟩:=nl'.some om0;have ik:(k:Int)<(nn:Int):=om0;have hp:=F5 (d:=nh0) nlen ag0 hcell hkl;have hp':=F5 (d:=nh0) nlen' ag0 hcell' hkl;have a1:=ns.one k om0;have a2:=ns'.one k om0;have s1:=hS.n k om0;have s2:=hS'.n k om0;have hP:=qw.mk (And.intro hp (And.intro hp' (And.intro hcell hcell')));clear hp hp' hcell hcell';cases hq:z7 (nth nd0 s.ns k) (nth nd0 s'.ns k)
   ·replace hq:=qw.mk hq
    go_wp2;refine qg kr0 kr0 ?_
    (repeat(first|(refine zI rfl 56 _ rfl g (off+k*33) rfl (fN (nth nh0 x.nh k)) _ (fun w' hw j v hj=>qf (i9 sk9 hw) (hP.it.1 j v hj)) Tryz.underlying56 rfl kr0 ?_;simp only[Act.put,List.setIfInBounds_toArray,List.set_cons_succ,List.set_cons_zero])|(refine zI rfl 56 _ rfl g' (off'+k*33) rfl (fN (nth nh0 x'.nh k)) _ (fun w' hw j v hj=>qf (i9 sk9 hw) (hP.it.2.1 j v hj)) Tryz.underlying56 rfl kr0 ?_;simp only[Act.put,List.setIfInBounds_toArray,List.set_cons_succ,List.set_cons_zero])|go_big_quiet_step ((go_at_call 24;exact C9 (a08 (h:=nth nh0 x.nh k) (h2:=nth nh0 x'.nh k) (a1.ex sk9) (a2.ex sk9) s1 s2 hq.it)))))
    refine wpQuiet_nil ?_;rintro _ ⟨x2,rfl⟩;go_wp2;go_ret;exact⟨by rw[hres.it,show af5 s.ns s'.ns=false from D7 (k:=k) om0 hq.it];rfl,sk9⟩
   ·replace hq:=qw.mk hq
    go_wp2;refine qg kr0 kr0 ?_
    (repeat(first|(refine zI rfl 56 _ rfl g (off+k*33) rfl (fN (nth nh0 x.nh k)) _ (fun w' hw j v hj=>qf (i9 sk9 hw) (hP.it.1 j v hj)) Tryz.underlying56 rfl kr0 ?_;simp only[Act.put,List.setIfInBounds_toArray,List.set_cons_succ,List.set_cons_zero])|(refine zI rfl 56 _ rfl g' (off'+k*33) rfl (fN (nth nh0 x'.nh k)) _ (fun w' hw j v hj=>qf (i9 sk9 hw) (hP.it.2.1 j v hj)) Tryz.underlying56 rfl kr0 ?_;simp only[Act.put,List.setIfInBounds_toArray,List.set_cons_succ,List.set_cons_zero])|go_big_quiet_step ((go_at_call 24;exact C9 (a08 (h:=nth nh0 x.nh k) (h2:=nth nh0 x'.nh k) (a1.ex sk9) (a2.ex sk9) s1 s2 hq.it)))))
    refine wpQuiet_nil ?_;rintro _ ⟨x2,rfl⟩;go_wp2;go_roundw
    case rel=>exact⟨k+1,om0,by go_num,zX hs1 hq.it,sk9⟩
    case measure=>simp[intOf];omega
  ·have ik:¬(k:Int)<(nn:Int):=om0;obtain rfl:nn=k:=om0;have hall:af5 s.ns s'.ns=true:=L0 om0 (fun j hj=>hs1 j om0)
   replace hall:=qw.mk hall
   clear hs1;go_wp2;go_loopw [6] (fun i wr=>∃k:Nat,k≤mn∧i=.int .i64 k∧(∀j,j<k→E3 (nth ms0 s.ms j) (nth ms0 s'.ms j)=true)∧∃y,wr=plus ((w.alloc (.cells #[.slice ga gn gc,.slice ka kn kc,.slice na nn nc,.slice ma mn mc,.slice ta tn tc,.int .i64 r0,.int .i64 r1] 34)).alloc (.cells #[.slice ga' gn' gc',.slice ka' kn' kc',.slice na' nn nc',.slice ma' mn mc',.slice ta' tn' tc',.int .i64 r0',.int .i64 r1'] 34)) y) (fun i _=>mn - (intOf i).toNat)
   case atStart=>exact⟨0,Nat.zero_le _,rfl,fun j hj=>om0,sk9⟩
   case round=>
    obtain⟨k2,hk2,rfl,hs2,y2,rfl⟩:=hrel;by_cases hkl2:k2<mn
    ·obtain⟨g,off,rfl,hgl,hcell⟩:=ml.some om0;obtain⟨g',off',rfl,hgl',hcell'⟩:=ml'.some om0;obtain⟨c0,c1,c2⟩:=a0p mlen hcell hkl2;obtain⟨d0,d1,d2⟩:=a0p mlen' hcell' hkl2;have ik2:(k2:Int)<(mn:Int):=om0;have a1:=ms.one k2 om0;have a2:=ms'.one k2 om0;have s1:=hS.m k2 om0;have s2:=hS'.m k2 om0;cases hq:E3 (nth ms0 s.ms k2) (nth ms0 s'.ms k2)
     ·replace hq:=qw.mk hq
      go_wp2;refine qg kr0 kr0 ?_
      (repeat(go_big_quiet_step ((go_at_call 54;exact C8 (a0X hq.it (a1.ex sk9) (a2.ex sk9) s1 s2)))))
      refine wpQuiet_nil ?_;rintro _ ⟨x2,rfl⟩;go_wp2;go_ret;exact⟨by rw[hres.it,hall.it,show ag2 s.ms s'.ms=false from D7 (k:=k2) om0 hq.it];rfl,sk9⟩
     ·replace hq:=qw.mk hq
      go_wp2;refine qg kr0 kr0 ?_
      (repeat(go_big_quiet_step ((go_at_call 54;exact C8 (a0X hq.it (a1.ex sk9) (a2.ex sk9) s1 s2)))))
      refine wpQuiet_nil ?_;rintro _ ⟨x2,rfl⟩;go_wp2;go_roundw
      case rel=>exact⟨k2+1,om0,by go_num,zX hs2 hq.it,sk9⟩
      case measure=>simp[intOf];omega
    ·have ik2:¬(k2:Int)<(mn:Int):=om0;go_wp2;go_ret;exact⟨by rw[hres.it,hall.it,show ag2 s.ms s'.ms=true from L0 om0 (fun j hj=>hs2 j om0)];rfl,sk9⟩
end
section
open Go.RowKit
def P0 (n:Nd) (r:List (Int × Int)):Bool:=decide (n.f.kind=5)&&decide (0<r.length)
def J5 (s:Sc) (k:Nat):Bool:=
 !(((nth dSl s.g.sl k).live&&!ze s.ms.length s.ts.length (nth nd0 s.ns k))||((!(nth dSl s.g.sl k).live&&!z7 (nth nd0 s.ns k) nd0)||P0 (nth nd0 s.ns k) (nth [] s.g.ks k)))
def O8 (s:Sc):Bool:=(List.range s.ns.length).all (J5 s)
def Q4 (s:Sc) (h:Int × Int):Bool:=decide (h=(0,0))||qG s.g.sl h.1 h.2
def C2 (s:Sc):Bool:=QV s.g&&(decide (s.ns.length=s.g.ks.length)&&(F6 s&&(O8 s&&Q4 s s.root)))
def a17 (s:Sc):Int:=if C2 s then 0 else 8
structure Ed where
 kind:Int
 h:Int × Int
 c:Int × Int
 p:Int
 n:Nd
 m:Ms
 t:Tp
def zU {α:Type} (l:List α) (k:Nat) (x:α):List α:=if k<l.length then l.set k x else l++[x]
def E2 (at_:Int) (many most:Nat) (wrong:Int):Int:=
 if at_< -1∨(many:Int)≤at_ then 2 else if wrong≠0 then wrong else if at_<0∧most≤many then 9 else 0
def C5 (at_:Int) (many:Nat):Nat:=if at_<0 then many else at_.toNat
def O0 (t:Tp):Int:=if Y5 t then 0 else 8
def qF (s:Sc) (e:Ed):Int:=
 if e.kind=1 then(if ze s.ms.length s.ts.length e.n then B4 s.g else 8)
 else if e.kind=2 then(if qG s.g.sl e.h.1 e.h.2 then(if ze s.ms.length s.ts.length e.n then(if P0 e.n (nth [] s.g.ks e.h.1.toNat)then 100 else 0)else 8)else 50)
 else if e.kind=3 then(if qG s.g.sl e.h.1 e.h.2∧qG s.g.sl e.c.1 e.c.2 then(if (nth nd0 s.ns e.h.1.toNat).f.kind=5 then 100 else D5 s.g e.h e.c e.p)else 50)
 else if e.kind=4 then zO s.g e.h e.p
 else if e.kind=5 then zH s.g e.h e.h
 else if e.kind=6 then E2 e.p s.ms.length 32 (L3 e.m)
 else if e.kind=7 then E2 e.p s.ts.length 16 (O0 e.t)
 else if e.kind=8 then(if Q4 s e.h then 0 else 50)
 else 2
def K7 (s:Sc) (e:Ed):Sc:=
 if e.kind=1 then⟨H5 s.g,zU s.ns (B3 s.g.sl) e.n,s.ms,s.ts,s.root⟩
 else if e.kind=2 then⟨s.g,s.ns.set e.h.1.toNat e.n,s.ms,s.ts,s.root⟩
 else if e.kind=3 then⟨ae9 s.g e.h e.c e.p,s.ns,s.ms,s.ts,s.root⟩
 else if e.kind=4 then⟨W6 s.g e.h e.p,s.ns,s.ms,s.ts,s.root⟩
 else if e.kind=5 then⟨U3 s.g e.h,s.ns.set e.h.1.toNat nd0,s.ms,s.ts,if s.root=e.h then(0,0)else s.root⟩
 else if e.kind=6 then⟨s.g,s.ns,zU s.ms (C5 e.p s.ms.length) e.m,s.ts,s.root⟩
 else if e.kind=7 then⟨s.g,s.ns,s.ms,zU s.ts (C5 e.p s.ts.length) e.t,s.root⟩
 else⟨s.g,s.ns,s.ms,s.ts,e.h⟩
def P7 (s:Sc) (e:Ed):Int:=if C2 s then qF s e else 8
def a4Z (s:Sc) (e:Ed):Sc:=if P7 s e=0 then K7 s e else sc0
def qT (s:Sc) (e:Ed):Int × Int:=if P7 s e=0∧e.kind=1 then(zb s.g.sl,zQ s.g.sl)else(0,0)
def v8 (s:Sc) (e:Ed):Int:=if P7 s e=0 then(if e.kind=6 then C5 e.p s.ms.length else if e.kind=7 then C5 e.p s.ts.length else 0)else 0
theorem a6l{a b:List Int}(h:W5 a b=true):a=b:=by
 simp only[W5,V4,Bool.and_eq_true,beq_iff_eq,List.all_eq_true,List.mem_range]at h;exact aw7 (d:=0) h.1 fun k hk=>by simpa [eqI]using h.2 k hk
theorem a0V{a b:Nd}(h:z7 a b=true):a=b:=by
 obtain⟨⟨ak,am,ao,ac,ae,ay⟩,af⟩:=a;obtain⟨⟨bk,bm,bo,bc,be,by_⟩,bf⟩:=b;simp only[z7,Bool.and_eq_true,decide_eq_true_eq]at h;obtain⟨rfl,hm,rfl,hc,hf,rfl,hs⟩:=h;rw[a7V hm,ac3 hc,a6l hf,a7N hs]
theorem B6{s:Sc}(h:C2 s=true):QV s.g=true∧s.ns.length=s.g.ks.length∧F6 s=true∧(∀k,k<s.ns.length→J5 s k=true)∧Q4 s s.root=true:=by
 simp only[C2,O8,Bool.and_eq_true,decide_eq_true_eq,List.all_eq_true,List.mem_range]at h;exact⟨h.1,h.2.1,h.2.2.1,h.2.2.2.1,h.2.2.2.2⟩
theorem ag3{s:Sc}(h1:QV s.g=true)(h2:s.ns.length=s.g.ks.length)(h3:F6 s=true)(h4:∀k,k<s.ns.length→J5 s k=true)(h5:Q4 s s.root=true):C2 s=true:=by
 simp only[C2,O8,Bool.and_eq_true,decide_eq_true_eq,List.all_eq_true,List.mem_range];exact⟨h1,h2,h3,h4,h5⟩
theorem M4{s:Sc}{k:Nat}:J5 s k=true↔((nth dSl s.g.sl k).live=true→ze s.ms.length s.ts.length (nth nd0 s.ns k)=true)∧((nth dSl s.g.sl k).live=false→nth nd0 s.ns k=nd0)∧((nth nd0 s.ns k).f.kind=5→(nth [] s.g.ks k).length=0):=by
 unfold J5 P0;constructor
 ·intro h;simp only[Bool.not_eq_true',Bool.or_eq_false_iff,Bool.and_eq_false_iff,Bool.not_eq_false',decide_eq_false_iff_not]at h;obtain⟨h1,h2,h3⟩:=h;refine⟨fun e=>?_,fun e=>?_,fun e=>?_⟩
  ·rcases h1 with h1|h1
   ·rw[e]at h1;cases h1
   ·exact h1
  ·rcases h2 with h2|h2
   ·rw[e]at h2;cases h2
   ·exact a0V h2
  ·rcases h3 with h3|h3
   ·exact absurd e h3
   ·omega
 ·rintro⟨h1,h2,h3⟩;cases hv:(nth dSl s.g.sl k).live
  ·rw[h2 hv,an5];simp[nd0,nf0]
  ·rw[h1 hv];by_cases h5:(nth nd0 s.ns k).f.kind=5
   ·simp[h3 h5]
   ·simp[h5]
theorem au4{a b a' b':Nat}{n:Nd}(h:ze a b n=true)(ha:a≤a')(hb:b≤b'):ze a' b' n=true:=by
 simp only[ze,Bool.and_eq_true,Bool.not_eq_true',Bool.and_eq_false_iff,decide_eq_false_iff_not]at h ⊢;obtain⟨h1,h2,h3,h4,h5,h6,h7⟩:=h;refine⟨h1,h2,?_,h4,h5,h6,?_⟩
 ·rcases h3 with h3|h3
  ·exact .inl h3
  ·exact .inr om0
 ·split
  ·rename_i e;rw[if_pos e]at h7;simp only[decide_eq_true_eq]at h7 ⊢;omega
  ·rename_i e;rw[if_neg e]at h7;exact h7
theorem L8{α:Type}{l:List α}{k:Nat}{x:α}:(zU l k x).length=if k<l.length then l.length else l.length+1:=by
 unfold zU;split<;>simp
theorem Qt{α:Type}{d x:α}{l:List α}{k j:Nat}(hk:k≤l.length):nth d (zU l k x) j=if j=k then x else nth d l j:=by
 unfold zU;split
 ·rename_i h;exact qR h
 ·obtain rfl:k=l.length:=om0;split
  ·rename_i e;subst e;rw[zG (Nat.le_refl _),Nat.sub_self];rfl
  ·by_cases hj:j<l.length
   ·rw[zB hj]
   ·rw[Q5 (l:=l) om0,Q5 (by simp;omega)]
theorem K6{s:Sc}(h:F6 s=true):(∀m,m∈s.ms→L3 m=0)∧(∀t,t∈s.ts→Y5 t=true)∧s.ms.length≤32∧s.ts.length≤16:=by
 simp only[F6,Bool.and_eq_true,List.all_eq_true,decide_eq_true_eq,N3]at h;exact⟨h.1,h.2.1,h.2.2.1,h.2.2.2⟩
theorem a0B{s:Sc}(h1:∀m,m∈s.ms→L3 m=0)(h2:∀t,t∈s.ts→Y5 t=true)(h3:s.ms.length≤32)(h4:s.ts.length≤16):F6 s=true:=by
 simp only[F6,Bool.and_eq_true,List.all_eq_true,decide_eq_true_eq,N3];exact⟨h1,h2,h3,h4⟩
theorem a0i{α:Type}{l:List α}{k:Nat}{x y:α}(h:y∈zU l k x):y∈l∨y=x:=by
 unfold zU at h;split at h
 ·exact(List.mem_or_eq_of_mem_set h)
 ·rcases List.mem_append.1 h with h|h
  ·exact .inl h
  ·simp at h;exact .inr h
theorem Zz{at_:Int}{many most:Nat}{wrong:Int}(h:E2 at_ many most wrong=0):C5 at_ many≤many∧wrong=0∧(C5 at_ many=many→many<most):=by
 unfold E2 at h;split at h
 ·cases h
 split at h
 ·rename_i h1 h2;exact absurd h h2
 split at h
 ·cases h
 rename_i h1 h2 h3;unfold C5;split
 ·exact⟨Nat.le_refl _,om0,fun _=>om0⟩
 ·exact⟨om0,om0,fun _=>om0⟩
theorem a5g{g:Gr}(hg:QV g=true):B4 g=H7 g.sl:=by unfold B4;rw[if_pos hg]
theorem a81{s:Sc}{e:Ed}(h:C2 s=true)(he:qF s e=0):C2 (K7 s e)=true:=by
 obtain⟨hg,hl,hst,hn,hr⟩:=B6 h;obtain⟨g1,g2,g3,g4⟩:=zx hg;unfold qF at he;unfold K7;split at he
 ·-- Make
  rename_i hk;rw[if_pos hk];split at he
  ·rename_i hm;rw[a5g hg]at he;have hfl:=QS s.g.sl;have hok:=a5P hg he;obtain⟨_,o2,_,_⟩:=zx hok;have hml:=Qc s.g.sl;refine ag3 hok ?_ hst ?_ ?_
   ·show(zU s.ns (B3 s.g.sl) e.n).length=(H5 s.g).ks.length;rw[o2,L8];show _=(qP s.g.sl).length;rw[hml,hl,g2]
   ·intro k hk;rw[M4];show((nth dSl (qP s.g.sl) k).live=true→ze s.ms.length s.ts.length (nth nd0 (zU s.ns (B3 s.g.sl) e.n) k)=true)∧((nth dSl (qP s.g.sl) k).live=false→nth nd0 (zU s.ns (B3 s.g.sl) e.n) k=nd0)∧((nth nd0 (zU s.ns (B3 s.g.sl) e.n) k).f.kind=5→(nth [] (H5 s.g).ks k).length=0);rw[Qt om0,QQ];by_cases hkq:k=B3 s.g.sl
    ·rw[if_pos hkq];have hlive:(nth dSl (qP s.g.sl) k).live=true:=by
      rw[hkq];unfold qP;split
      ·rename_i hf;rw[qR hf,if_pos rfl]
      ·rename_i hf;have:B3 s.g.sl=s.g.sl.length:=om0;rw[this,zG (Nat.le_refl _),Nat.sub_self];rfl
     refine⟨fun _=>hm,fun e2=>(by rw[hlive]at e2;cases e2),fun _=>?_⟩;by_cases hin:k<s.g.ks.length
     ·rcases(Qk g3 hin).2.1 with h0|h0
      ·exact h0
      ·have:=(ay5 (QO (l:=s.g.sl) om0)).1;rw[hkq,this]at h0;cases h0
     ·rw[Q5 om0];rfl
    ·rw[if_neg hkq];have hsame:(nth dSl (qP s.g.sl) k)=nth dSl s.g.sl k:=by
      unfold qP;split
      ·rename_i hf;rw[qR hf,if_neg hkq]
      ·by_cases hkl:k<s.g.sl.length
       ·rw[zB hkl]
       ·rw[Q5 (l:=s.g.sl) om0,Q5 (by simp;omega)]
     rw[hsame];by_cases hin:k<s.ns.length
     ·exact M4.1 (hn k hin)
     ·rw[Q5 (l:=s.ns) om0,Q5 (l:=s.g.sl) om0,Q5 (l:=s.g.ks) om0];exact⟨fun e2=>(by cases e2),fun _=>rfl,fun _=>rfl⟩
   ·show Q4 ⟨H5 s.g,_,s.ms,s.ts,s.root⟩ s.root=true;unfold Q4 at hr ⊢;rw[Bool.or_eq_true]at hr ⊢;exact hr.imp id a1g
  ·cases he
 split at he
 ·-- Set
  rename_i k1 hk;rw[if_neg k1,if_pos hk];split at he
  ·rename_i hh;split at he
   ·rename_i hm;split at he
    ·cases he
    ·rename_i hkids;have hlt:=A8 hh;refine ag3 hg (by rw[List.length_set];exact hl) hst ?_ hr;intro k hkl;rw[M4];show((nth dSl s.g.sl k).live=true→ze s.ms.length s.ts.length (nth nd0 (s.ns.set e.h.1.toNat e.n) k)=true)∧((nth dSl s.g.sl k).live=false→nth nd0 (s.ns.set e.h.1.toNat e.n) k=nd0)∧((nth nd0 (s.ns.set e.h.1.toNat e.n) k).f.kind=5→(nth [] s.g.ks k).length=0);rw[qR om0];split
     ·rename_i hkq;subst hkq;refine⟨fun _=>hm,fun e2=>?_,fun e5=>?_⟩
      ·rw[(C6.1 hh).2.1]at e2;cases e2
      ·simp only[P0,e5]at hkids;simp at hkids;simp[hkids]
     ·exact M4.1 (hn k (by simpa using hkl))
   ·cases he
  ·cases he
 split at he
 ·-- Link
  rename_i k1 k2 hk;rw[if_neg k1,if_neg k2,if_pos hk];split at he
  ·split at he
   ·cases he
   ·rename_i hh h5;have hlt:=A8 hh.1;obtain⟨_,_,_,p0,p1,_,_⟩:=ar0 he;refine ag3 (a6t he) (by show s.ns.length=(s.g.ks.set _ _).length;rw[List.length_set];exact hl) hst ?_ hr;intro k hkl;have hold:=M4.1 (hn k hkl);rw[M4];refine⟨hold.1,hold.2.1,fun e5=>?_⟩;show(nth [] (s.g.ks.set e.h.1.toNat _) k).length=0;rw[qR om0];split
    ·rename_i hkq;subst hkq;exact absurd e5 h5
    ·exact hold.2.2 e5
  ·cases he
 split at he
 ·-- Unlink
  rename_i k1 k2 k3 hk;rw[if_neg k1,if_neg k2,if_neg k3,if_pos hk];refine ag3 (a3s hg) (by show s.ns.length=(s.g.ks.set _ _).length;rw[List.length_set];exact hl) hst ?_ hr;intro k hkl;have hold:=M4.1 (hn k hkl);rw[M4];refine⟨hold.1,hold.2.1,fun e5=>?_⟩;show(nth [] (s.g.ks.set e.h.1.toNat _) k).length=0;have h0:=hold.2.2 e5;by_cases hp:e.h.1.toNat<s.g.ks.length
  ·rw[qR hp];split
   ·rename_i hkq;subst hkq;have:=a5u (r:=K0 s.g e.h) (k:=e.p.toNat);unfold K0 at this ⊢;have h0':(nth [] s.g.ks e.h.1.toNat).length=0:=h0;omega
   ·exact h0
  ·rw[List.set_eq_of_length_le om0];exact h0
 split at he
 ·-- Kill
  rename_i k1 k2 k3 k4 hk;rw[if_neg k1,if_neg k2,if_neg k3,if_neg k4,if_pos hk];unfold zH at he;rw[if_pos hg]at he;split at he
  ·rename_i hh;have hh:=hh.1;have hlt:=A8 hh;refine ag3 (a59 hg hh) ?_ hst ?_ ?_
   ·show(s.ns.set _ _).length=((s.g.ks.map _).set _ _).length;rw[List.length_set,List.length_set,List.length_map];exact hl
   ·intro k hkl;have hkl':k<s.ns.length:=by simpa using hkl
    rw[M4];show((nth dSl (qK s.g.sl e.h.1) k).live=true→ze s.ms.length s.ts.length (nth nd0 (s.ns.set e.h.1.toNat nd0) k)=true)∧((nth dSl (qK s.g.sl e.h.1) k).live=false→nth nd0 (s.ns.set e.h.1.toNat nd0) k=nd0)∧((nth nd0 (s.ns.set e.h.1.toNat nd0) k).f.kind=5→(nth [] (U3 s.g e.h).ks k).length=0);rw[aw2 om0,qR om0];unfold qK;rw[qR om0];split
    ·exact⟨fun e2=>(by cases e2),fun _=>rfl,fun _=>rfl⟩
    ·have hold:=M4.1 (hn k hkl');refine⟨hold.1,hold.2.1,fun e5=>?_⟩;have h0:=hold.2.2 e5;have:=List.length_filter_le (fun x=>!decide (x=e.h)) (nth [] s.g.ks k);unfold v7;omega
   ·show Q4 ⟨U3 s.g e.h,_,s.ms,s.ts,_⟩ (if s.root=e.h then(0,0)else s.root)=true;unfold Q4 at hr ⊢;split
    ·rfl
    ·rename_i hne;rw[Bool.or_eq_true]at hr ⊢;refine hr.imp id fun hx=>?_
     exact a1m (s:=e.h.1) (g:=e.h.2) hh hx hne
  ·cases he
 split at he
 ·-- Mesh
  rename_i k1 k2 k3 k4 k5 hk;rw[if_neg k1,if_neg k2,if_neg k3,if_neg k4,if_neg k5,if_pos hk];obtain⟨p1,p2,p3⟩:=Zz he;obtain⟨m1,m2,m3,m4⟩:=K6 hst;have hlen:=L8 (l:=s.ms) (k:=C5 e.p s.ms.length) (x:=e.m);refine ag3 hg hl (a0B ?_ m2 ?_ m4) ?_ hr
  ·intro m hm;rcases a0i hm with hm|rfl
   ·exact m1 m hm
   ·exact p2
  ·show(zU s.ms _ _).length≤32;rw[hlen];split<;>omega
  ·intro k hkl;have hold:=M4.1 (hn k hkl);rw[M4];refine⟨fun e2=>au4 (hold.1 e2) ?_ (Nat.le_refl _),hold.2.1,hold.2.2⟩;show s.ms.length≤(zU s.ms _ _).length;rw[hlen];split<;>omega
 split at he
 ·-- Texture
  rename_i k1 k2 k3 k4 k5 k6 hk;rw[if_neg k1,if_neg k2,if_neg k3,if_neg k4,if_neg k5,if_neg k6,if_pos hk];obtain⟨p1,p2,p3⟩:=Zz he;obtain⟨m1,m2,m3,m4⟩:=K6 hst;have hlen:=L8 (l:=s.ts) (k:=C5 e.p s.ts.length) (x:=e.t);refine ag3 hg hl (a0B m1 ?_ m3 ?_) ?_ hr
  ·intro t ht;rcases a0i ht with ht|rfl
   ·exact m2 t ht
   ·unfold O0 at p2;split at p2
    ·assumption
    ·cases p2
  ·show(zU s.ts _ _).length≤16;rw[hlen];split<;>omega
  ·intro k hkl;have hold:=M4.1 (hn k hkl);rw[M4];refine⟨fun e2=>au4 (hold.1 e2) (Nat.le_refl _) ?_,hold.2.1,hold.2.2⟩;show s.ts.length≤(zU s.ts _ _).length;rw[hlen];split<;>omega
 split at he
 ·-- Root
  rename_i k1 k2 k3 k4 k5 k6 k7 hk;rw[if_neg k1,if_neg k2,if_neg k3,if_neg k4,if_neg k5,if_neg k6,if_neg k7];split at he
  ·rename_i hro;exact ag3 hg hl hst hn hro
  ·cases he
 ·cases he
theorem a8y{s:Sc}{e:Ed}(he:P7 s e=0):C2 (a4Z s e)=true:=by
 unfold a4Z;rw[if_pos he];unfold P7 at he;split at he
 ·rename_i hm;exact a81 hm he
 ·cases he
end
end Go.Proofs.YtcekcihijdipoaaGreat
