/- A pack of texts: EdRD3, EdRD4. -/
import Derived.Test.YtcekcihijdipoaaGreatPD36
namespace Go.Proofs.YtcekcihijdipoaaGreat
set_option maxRecDepth 100000
set_option maxHeartbeats 16000000
open Go.RowKit Go.ChangeShapes Go.WideShapes Go.ChangeAt
set_option linter.unusedSimpArgs false
set_option linter.unusedVariables false
attribute [local go_sem] qn qZ A2 zg zz zA t5 qJ zf qO qD t6
section
theorem a1J{T w:World}{h:SH}{x:SX}{s:Sc}(hT:∃y,w=plus T y)(O:zi T w h x s)(hm:C2 s=true)(e:EH)(ps:List PH)(n:Nd)(m:Ms)(t:Tp)(hE:I9 T e ps n m t)(hfar:e.nd.n≤10000)(hk:e.kind=8):
  Calls Tryz.prog 61 #[.agg (qa h).toArray,.agg (fE e).toArray] w fun r w'=>Z0 w T (K7 s (qt e n m t)) (0) (0) (0) (qF s (qt e n m t)) r w':=by
 have hA:=O.at (A7 hm);obtain⟨hgk,hnl,_,_,_⟩:=B6 hm;obtain⟨hok,hgl,_,_⟩:=zx hgk;have hnn:=hA.nn;have f4:=(A7 hm).nn;have hgn:h.gn≤1000:=by have a1:=O.g.sl.1;have a2:=(A7 hm).sl;omega
 obtain⟨b1,hb1⟩:∃b,qG s.g.sl e.h0 e.h1=b:=⟨_,rfl⟩;obtain⟨b2,hb2⟩:∃b,qG s.g.sl e.c0 e.c1=b:=⟨_,rfl⟩;have HV1:∀w',(∃y,w'=plus w y)→Calls Tryz.prog 91 #[.agg (qa h).toArray,.agg #[.int .i64 e.h0,.int .i64 e.h1]] w' fun r w''=>r=.returned (.bool b1)∧∃y,w''=plus w' y:=fun w' hw=>H9 hb1 (O.g.sl.lay.ex hw) hgn
 have HV2:∀w',(∃y,w'=plus w y)→Calls Tryz.prog 91 #[.agg (qa h).toArray,.agg #[.int .i64 e.c0,.int .i64 e.c1]] w' fun r w''=>r=.returned (.bool b2)∧∃y,w''=plus w' y:=fun w' hw=>H9 hb2 (O.g.sl.lay.ex hw) hgn
 have i0:(fE e)[0]?=some (.int .u8 e.kind):=rfl;have i1:(fE e)[1]?=some (.int .i64 e.h0):=rfl;have i2:(fE e)[2]?=some (.int .i64 e.h1):=rfl;have i3:(fE e)[3]?=some (.int .i64 e.c0):=rfl;have i4:(fE e)[4]?=some (.int .i64 e.c1):=rfl;have i5:(fE e)[5]?=some (.int .i64 e.at'):=rfl;have hnd:=a0l e;rw[hk]at i0;have hs:K7 s (qt e n m t)=⟨s.g,s.ns,s.ms,s.ts,(e.h0,e.h1)⟩:=by simp[K7,qt,hk]
 obtain⟨bz,hbz⟩:∃b,eqh e.h0 e.h1 0 0=b:=⟨_,rfl⟩;have qH:=aq9 hbz;have he:qF s (qt e n m t)=if bz||b1 then 0 else 50:=by
  have:Q4 s (e.h0,e.h1)=(bz||b1):=by
   rw[←hbz,←hb1];unfold Q4 eqh;by_cases q0:e.h0=0<;>by_cases q1:e.h1=0<;>simp[q0,q1]
  simp[qF,qt,hk,this]
 obtain⟨ER,hER⟩:∃v:Int,(if bz||b1 then(0:Int)else 50)=v:=⟨_,rfl⟩;rw[hER]at he;rw[he,hs]
 replace hER:=qw.mk hER
 clear he hs hm hA hgk hbz;obtain⟨ce,hce⟩:∃c,fE e=c:=⟨_,rfl⟩;have lce:ce.length=45:=by rw[←hce];rfl
 have ace:ce.toArray.size=45:=by simpa using lce
 obtain⟨cs,hcs⟩:∃c,qa h=c:=⟨_,rfl⟩;have lcs:cs.length=7:=by rw[←hcs];rfl
 have acs:cs.toArray.size=7:=by simpa using lcs
 have cs1:∀u∈cs,u.oneCell'=true:=by rw[←hcs];exact qX h
 rw[hcs]at HV1 HV2;rw[hce]at i0 i1 i2 i3 i4 i5 hnd ⊢;have hcsv:∀(j:Nat) (v:Value),(qa h)[j]?=some v→cs[j]?=some v:=fun j v hj=>by rw[←hcs];exact hj
 have j0:=hcsv 0 _ rfl;have j1:=hcsv 1 _ rfl;have j2:=hcsv 2 _ rfl;rw[hcs]
 replace HV1:=qw.mk HV1
 replace HV2:=qw.mk HV2
 replace hnd:=qw.mk hnd
 replace hcsv:=qw.mk hcsv
 obtain⟨q,hq⟩:∃q,w.heap.size=q:=⟨_,rfl⟩;have hTq:T.heap.size≤q:=by have:=qu hT;omega
 go_enter Tryz.func61,Tryz.ntmps61;go_upto_region 1 with fail;refine qz (fun w'=>(∃y,w'=plus w y)∧w'.heap[q]?=some (.cells cs.toArray 34)∧w'.heap[q+1]?=some (.cells ce.toArray 66)∧w'.heap[q+2]?=some (.cells (qa sh0).toArray 34)∧w'.heap[q+3]?=some (.cells #[.int .i64 0,.int .i64 0,.int .i64 0] 36)∧w'.heap.size=q+4) ⟨sk9,hq▸qm (qm (qm (qc _ _))),?b1,?b2,?b3,by rw[j8,j8,j8,j8,hq]⟩ ?_
 case b1=>rw[←hq,←j8 w (.cells cs.toArray 34)];exact qm (qm (qc _ _))
 case b2=>rw[show q+2=((w.alloc (.cells cs.toArray 34)).alloc (.cells ce.toArray 66)).heap.size by rw[j8,j8,hq]];exact qm (qc _ _)
 case b3=>rw[show q+3=(((w.alloc (.cells cs.toArray 34)).alloc (.cells ce.toArray 66)).alloc (.cells (qa sh0).toArray 34)).heap.size by rw[j8,j8,j8,hq]];exact qc _ _
 try simp only[hq]
 rintro w1 ⟨x1,k0,k1,k2,k3,zq⟩;have e0:=k9 k1 i0;have e1:=k9 k1 i1;have e2:=k9 k1 i2;have e3:=k9 k1 i3;have e4:=k9 k1 i4;have e5:=k9 k1 i5;have z5:=j9 (i:=5) k0;have z6:=j9 (i:=6) k0;have l1:=qi k1;have l0:=qi k0;have c5:∃v,w1.cell? ⟨q,5,none⟩=some v:=⟨_,k9 k0 (hcsv.it 5 _ rfl)⟩;obtain⟨v5,c5⟩:=c5;have c6:=k9 k0 (hcsv.it 6 _ rfl);cases bz
 ·cases b1
  ·obtain rfl:ER=50:=by rw[←hER.it];rfl
   go_upto_region 11 with(first|(with_reducible refine wpList_load_row rfl 34 (Operand.tmp 2) rfl q kr0 _ _ _ _ (i7 (sk9) k0) Tryz.underlying34 rfl (by rw[acs];kernel_rfl) ?_)|(go_at_call 91;refine(Calls.mono (by first|exact HV1.it _ (i9 x1 sk9)|exact HV2.it _ (i9 x1 sk9)) ?_);rintro r w' ⟨rfl,nxh,rfl⟩));go_wp2_with (first|(refine wpList_load_row rfl 34 (Operand.tmp 2) rfl q kr0 _ _ _ _ (by exact i7 sk9 k0) Tryz.underlying34 rfl (by rw[acs];kernel_rfl) ?_)|(refine j6 rfl 34 (Operand.tmp 4) _ rfl (q+2) cs rfl rfl 34 (qa sh0).toArray (by exact i7 sk9 k2) (by rw[lcs];kernel_rfl) (by rw[lcs];kernel_rfl) cs1 ?_)|(refine j6 rfl 36 (Operand.tmp 5) _ rfl (q+3) [.int .i64 0,.int .i64 0,.int .i64 0] rfl rfl 36 #[.int .i64 0,.int .i64 0,.int .i64 0] (by exact l9 (i7 sk9 k3) om0) kr0 rfl (by intro v hv;simp at hv;first|(subst hv;rfl)|(rcases hv with rfl|rfl<;>rfl)|(rcases hv with rfl|rfl|rfl<;>rfl)) ?_));exact bodyPost_ret (qy Tryz.results61 _ _ (q+2) (q+3) 34 36 _ #[.int .i64 0,.int .i64 0,.int .i64 0] _ _ (.int .i64 50) rfl rfl rfl (l9 (p9 (i7 sk9 k2)) om0) (p9 (l9 (i7 sk9 k3) om0)) Tryz.underlying34 rfl (by rw[acs];kernel_rfl) Tryz.underlying36 rfl kr0) rfl (N9 (h':=h) (x':=x) hcs (i7 sk9 k2) (i7 sk9 k3) om0 om0 om0 (i9 (i9 hT x1) sk9) (qB (qQ x1) (qQ sk9)) om0 om0 (fun e0=>absurd (show(50:Int)=0 from e0) dc0))
  ·obtain rfl:ER=0:=by rw[←hER.it];rfl
   go_upto_region 33 with(first|(with_reducible refine wpList_load_row rfl 34 (Operand.tmp 2) rfl q kr0 _ _ _ _ (i7 (sk9) k0) Tryz.underlying34 rfl (by rw[acs];kernel_rfl) ?_)|(go_at_call 91;refine(Calls.mono (by first|exact HV1.it _ (i9 x1 sk9)|exact HV2.it _ (i9 x1 sk9)) ?_);rintro r w' ⟨rfl,nxh,rfl⟩));refine qz (fun w'=>BxI w T w' q (X8 h e.h0 e.h1) x ⟨s.g,s.ns,s.ms,s.ts,(e.h0,e.h1)⟩∧w'.heap[q+2]?=some (.cells (qa sh0).toArray 34)∧w'.heap[q+3]?=some (.cells #[.int .i64 0,.int .i64 0,.int .i64 0] 36)) ?nm ?_
   case nm=>exact⟨BxI.on (w:=(w1.setCell ⟨q,5,none⟩ (.int .i64 e.h0)).setCell ⟨q,6,none⟩ (.int .i64 e.h1)) ⟨qb (qb (i9 hT x1) hTq) hTq,(((O.ex x1).set_other k0 dc0).set_other (y8 k0) dc0).withRoot _ _,by subst hcs;have:=y8 (i:=6) (u:=.int .i64 e.h1) (y8 (i:=5) (u:=.int .i64 e.h0) k0);exact this,hTq,F1 (F1 (qQ x1) om0) om0⟩ sk9,i7 sk9 (qj (qj k2 (show q≠q+2 by omega)) (show q≠q+2 by omega)),i7 sk9 (qj (qj k3 (show q≠q+3 by omega)) (show q≠q+3 by omega))⟩
   rintro w3 ⟨U,k2',k3'⟩;have k0':=U.bx;clear k0 k1 k2 k3 c5 c6 e0 e1 e2 e3 e4 e5 z5 z6 l0 l1;go_wp2_with (first|(refine wpList_load_row rfl 34 (Operand.tmp 2) rfl q kr0 _ _ _ _ (by exact i7 sk9 k0') Tryz.underlying34 rfl kr0 ?_)|(refine j6 rfl 34 (Operand.tmp 4) _ rfl (q+2) (qa (X8 h e.h0 e.h1)) rfl rfl 34 (qa sh0).toArray (by exact i7 sk9 k2') kr0 kr0 (qX _) ?_)|(refine j6 rfl 36 (Operand.tmp 5) _ rfl (q+3) [.int .i64 0,.int .i64 0,.int .i64 0] rfl rfl 36 #[.int .i64 0,.int .i64 0,.int .i64 0] (by exact l9 (i7 sk9 k3') om0) kr0 rfl (by intro v hv;simp at hv;first|(subst hv;rfl)|(rcases hv with rfl|rfl<;>rfl)|(rcases hv with rfl|rfl|rfl<;>rfl)) ?_));exact bodyPost_ret (qy Tryz.results61 _ _ (q+2) (q+3) 34 36 _ #[.int .i64 0,.int .i64 0,.int .i64 0] _ _ (.int .i64 0) rfl rfl rfl (l9 (p9 (i7 sk9 k2')) om0) (p9 (l9 (i7 sk9 k3') om0)) Tryz.underlying34 rfl kr0 Tryz.underlying36 rfl kr0) rfl (N9 (h':=X8 h e.h0 e.h1) (x':=x) rfl (i7 sk9 k2') (i7 sk9 k3') om0 om0 om0 (i9 U.ex sk9) (qB U.kp (qQ sk9)) om0 om0 (fun _=>U.own.ex sk9))
 ·obtain rfl:ER=0:=by rw[←hER.it];rfl
  go_upto_region 9 with fail;refine qz (fun w'=>BxI w T w' q (X8 h e.h0 e.h1) x ⟨s.g,s.ns,s.ms,s.ts,(e.h0,e.h1)⟩∧w'.heap[q+2]?=some (.cells (qa sh0).toArray 34)∧w'.heap[q+3]?=some (.cells #[.int .i64 0,.int .i64 0,.int .i64 0] 36)) ?nm ?_
  case nm=>exact⟨BxI.on (w:=(w1.setCell ⟨q,5,none⟩ (.int .i64 e.h0)).setCell ⟨q,6,none⟩ (.int .i64 e.h1)) ⟨qb (qb (i9 hT x1) hTq) hTq,(((O.ex x1).set_other k0 dc0).set_other (y8 k0) dc0).withRoot _ _,by subst hcs;have:=y8 (i:=6) (u:=.int .i64 e.h1) (y8 (i:=5) (u:=.int .i64 e.h0) k0);exact this,hTq,F1 (F1 (qQ x1) om0) om0⟩ sk9,i7 sk9 (qj (qj k2 (show q≠q+2 by omega)) (show q≠q+2 by omega)),i7 sk9 (qj (qj k3 (show q≠q+3 by omega)) (show q≠q+3 by omega))⟩
  rintro w3 ⟨U,k2',k3'⟩;have k0':=U.bx;clear k0 k1 k2 k3 c5 c6 e0 e1 e2 e3 e4 e5 z5 z6 l0 l1;go_wp2_with (first|(refine wpList_load_row rfl 34 (Operand.tmp 2) rfl q kr0 _ _ _ _ (by exact i7 sk9 k0') Tryz.underlying34 rfl kr0 ?_)|(refine j6 rfl 34 (Operand.tmp 4) _ rfl (q+2) (qa (X8 h e.h0 e.h1)) rfl rfl 34 (qa sh0).toArray (by exact i7 sk9 k2') kr0 kr0 (qX _) ?_)|(refine j6 rfl 36 (Operand.tmp 5) _ rfl (q+3) [.int .i64 0,.int .i64 0,.int .i64 0] rfl rfl 36 #[.int .i64 0,.int .i64 0,.int .i64 0] (by exact l9 (i7 sk9 k3') om0) kr0 rfl (by intro v hv;simp at hv;first|(subst hv;rfl)|(rcases hv with rfl|rfl<;>rfl)|(rcases hv with rfl|rfl|rfl<;>rfl)) ?_));exact bodyPost_ret (qy Tryz.results61 _ _ (q+2) (q+3) 34 36 _ #[.int .i64 0,.int .i64 0,.int .i64 0] _ _ (.int .i64 0) rfl rfl rfl (l9 (p9 (i7 sk9 k2')) om0) (p9 (l9 (i7 sk9 k3') om0)) Tryz.underlying34 rfl kr0 Tryz.underlying36 rfl kr0) rfl (N9 (h':=X8 h e.h0 e.h1) (x':=x) rfl (i7 sk9 k2') (i7 sk9 k3') om0 om0 om0 (i9 U.ex sk9) (qB U.kp (qQ sk9)) om0 om0 (fun _=>U.own.ex sk9))
end
section
def seS (i:Nat):List Nat:=match i with|0=>[89]|1=>[90]|2=>[91]|3=>[92]|4=>[93]|5=>[94]|6=>[95]|7=>[96]|8=>[97]|_=>[]
def seΦ (T:World) (q g nn nc k:Nat) (e:EH) (n:Nd) (i:Nat) (t:Nat→Value) (w':World):Prop:=match i with
 |0=>t 89=.pointer (some ⟨q,2,none⟩)
 |1=>t 90=.slice (some ⟨g,0,none⟩) nn nc
 |2=>t 91=.pointer (some ⟨q+1,1,none⟩)
 |3=>t 92=.pointer (some ⟨q+1,1,none⟩)
 |4=>t 93=.int .i64 k
 |5=>t 94=.pointer (some ⟨q+1,6,none⟩)
 |6=>t 95=.agg (fN e.nd).toArray
 |7=>∃h3,t 96=.agg (fN h3).toArray∧zV T w' h3 n
 |8=>t 97=.pointer (some ⟨g,k*33,none⟩)
 |_=>True
theorem a6j(T:World)(q g nn nc k:Nat)(e:EH)(n:Nd):∀i t t' w' x,seΦ T q g nn nc k e n i t w'→(∀s∈seS i,t' s=t s)→seΦ T q g nn nc k e n i t' (plus w' x):=by
 intro i t t' w' x h_ hs'
 match i with
 |7=>obtain⟨h3,e1,e2⟩:=h_;exact⟨h3,(hs' 96 dc0).trans e1,e2.ex ⟨x,rfl⟩⟩
 |0|1|2|3|4|5|6|8=>exact(hs' _ dc0).trans h_
 |i+9=>trivial
theorem a2v{T w:World}{h:SH}{x:SX}{s:Sc}(hT:∃y,w=plus T y)(O:zi T w h x s)(hm:C2 s=true)(e:EH)(ps:List PH)(n:Nd)(m:Ms)(t:Tp)(hE:I9 T e ps n m t)(hfar:e.nd.n≤10000)(hk:e.kind=2):
  Calls Tryz.prog 61 #[.agg (qa h).toArray,.agg (fE e).toArray] w fun r w'=>Z0 w T (K7 s (qt e n m t)) (0) (0) (0) (qF s (qt e n m t)) r w':=by
 have hA:=O.at (A7 hm);obtain⟨hgk,hnl,_,_,_⟩:=B6 hm;obtain⟨hok,hgl,_,_⟩:=zx hgk;have hnn:=hA.nn;have f4:=(A7 hm).nn;have hgn:h.gn≤1000:=by have a1:=O.g.sl.1;have a2:=(A7 hm).sl;omega
 obtain⟨b1,hb1⟩:∃b,qG s.g.sl e.h0 e.h1=b:=⟨_,rfl⟩;obtain⟨b2,hb2⟩:∃b,qG s.g.sl e.c0 e.c1=b:=⟨_,rfl⟩;have HV1:∀w',(∃y,w'=plus w y)→Calls Tryz.prog 91 #[.agg (qa h).toArray,.agg #[.int .i64 e.h0,.int .i64 e.h1]] w' fun r w''=>r=.returned (.bool b1)∧∃y,w''=plus w' y:=fun w' hw=>H9 hb1 (O.g.sl.lay.ex hw) hgn
 have HV2:∀w',(∃y,w'=plus w y)→Calls Tryz.prog 91 #[.agg (qa h).toArray,.agg #[.int .i64 e.c0,.int .i64 e.c1]] w' fun r w''=>r=.returned (.bool b2)∧∃y,w''=plus w' y:=fun w' hw=>H9 hb2 (O.g.sl.lay.ex hw) hgn
 have i0:(fE e)[0]?=some (.int .u8 e.kind):=rfl;have i1:(fE e)[1]?=some (.int .i64 e.h0):=rfl;have i2:(fE e)[2]?=some (.int .i64 e.h1):=rfl;have i3:(fE e)[3]?=some (.int .i64 e.c0):=rfl;have i4:(fE e)[4]?=some (.int .i64 e.c1):=rfl;have i5:(fE e)[5]?=some (.int .i64 e.at'):=rfl;have hnd:=a0l e;rw[hk]at i0;obtain⟨k,hkt⟩:∃k,e.h0.toNat=k:=⟨_,rfl⟩;have hslot:b1=true→e.h0=k∧k<s.ns.length∧k<s.g.ks.length:=fun q=>by
  have:=A8 (hb1.trans q);omega
 have hmn:=hA.mn.1;have htn:=hA.tn.1;obtain⟨bm,hbm⟩:∃b,ze s.ms.length s.ts.length n=b:=⟨_,rfl⟩;have CK:a8T 51 w (qa h) (fN e.nd) (.bool bm):=⟨fun w' hw=>a0J ((hE.nd.ex hT).ex hw) (by rw[←hbm,hmn,htn])⟩;have hs:K7 s (qt e n m t)=⟨s.g,s.ns.set k n,s.ms,s.ts,s.root⟩:=by simp[K7,qt,hk,hkt]
 have he:qF s (qt e n m t)=if b1 then(if bm then(if P0 n (nth [] s.g.ks k)then 100 else 0)else 8)else 50:=by simp[qF,qt,hk,hb1,hbm,hkt]
 obtain⟨lk,hlk⟩:∃b,P0 n (nth [] s.g.ks k)=b:=⟨_,rfl⟩;rw[hlk]at he;obtain⟨ER,hER⟩:∃v:Int,(if b1 then(if bm then(if lk then(100:Int)else 0)else 8)else 50)=v:=⟨_,rfl⟩;rw[hER]at he;rw[he,hs]
 replace hER:=qw.mk hER
 have hkl:=O.g.kh;have hlen:=O.g.len;have hkn':=O.g.kh.1;have hrow:=O.g.row;have hf:=hE.nd.f;clear he hs hm hA hgk hbm hkt;obtain⟨a0,ha0⟩:∃v,e.h0=v:=⟨_,rfl⟩;rw[ha0]at HV1 i1 hslot;obtain⟨ce,hce⟩:∃c,fE e=c:=⟨_,rfl⟩;have lce:ce.length=45:=by rw[←hce];rfl
 have ace:ce.toArray.size=45:=by simpa using lce
 obtain⟨cs,hcs⟩:∃c,qa h=c:=⟨_,rfl⟩;have lcs:cs.length=7:=by rw[←hcs];rfl
 have acs:cs.toArray.size=7:=by simpa using lcs
 have cs1:∀u∈cs,u.oneCell'=true:=by rw[←hcs];exact qX h
 rw[hcs]at HV1 HV2;rw[hce]at i0 i1 i2 i3 i4 i5 hnd ⊢;have hcsv:∀(j:Nat) (v:Value),(qa h)[j]?=some v→cs[j]?=some v:=fun j v hj=>by rw[←hcs];exact hj
 have j0:=hcsv 0 _ rfl;have j1:=hcsv 1 _ rfl;have j2:=hcsv 2 _ rfl;rw[hcs]
 replace HV1:=qw.mk HV1
 replace HV2:=qw.mk HV2
 replace hnd:=qw.mk hnd
 replace hcsv:=qw.mk hcsv
 obtain⟨q,hq⟩:∃q,w.heap.size=q:=⟨_,rfl⟩;have hTq:T.heap.size≤q:=by have:=qu hT;omega
 go_enter Tryz.func61,Tryz.ntmps61;go_upto_region 1 with fail;refine qz (fun w'=>(∃y,w'=plus w y)∧w'.heap[q]?=some (.cells cs.toArray 34)∧w'.heap[q+1]?=some (.cells ce.toArray 66)∧w'.heap[q+2]?=some (.cells (qa sh0).toArray 34)∧w'.heap[q+3]?=some (.cells #[.int .i64 0,.int .i64 0,.int .i64 0] 36)∧w'.heap.size=q+4) ⟨sk9,hq▸qm (qm (qm (qc _ _))),?b1,?b2,?b3,by rw[j8,j8,j8,j8,hq]⟩ ?_
 case b1=>rw[←hq,←j8 w (.cells cs.toArray 34)];exact qm (qm (qc _ _))
 case b2=>rw[show q+2=((w.alloc (.cells cs.toArray 34)).alloc (.cells ce.toArray 66)).heap.size by rw[j8,j8,hq]];exact qm (qc _ _)
 case b3=>rw[show q+3=(((w.alloc (.cells cs.toArray 34)).alloc (.cells ce.toArray 66)).alloc (.cells (qa sh0).toArray 34)).heap.size by rw[j8,j8,j8,hq]];exact qc _ _
 try simp only[hq]
 rintro w1 ⟨x1,k0,k1,k2,k3,zq⟩;have e0:=k9 k1 i0;have e1:=k9 k1 i1;have e2:=k9 k1 i2;have e3:=k9 k1 i3;have e4:=k9 k1 i4;have e5:=k9 k1 i5;have z5:=j9 (i:=5) k0;have z6:=j9 (i:=6) k0;have l1:=qi k1;have l0:=qi k0;have c5:∃v,w1.cell? ⟨q,5,none⟩=some v:=⟨_,k9 k0 (hcsv.it 5 _ rfl)⟩;rw[hcs]at CK;cases b1
 ·obtain rfl:ER=50:=by rw[←hER.it];rfl
  go_upto_region 11 with(first|(with_reducible refine wpList_load_row rfl 34 (Operand.tmp 2) rfl q kr0 _ _ _ _ (i7 (sk9) k0) Tryz.underlying34 rfl (by rw[acs];kernel_rfl) ?_)|(go_at_call 91;refine(Calls.mono (by first|exact HV1.it _ (i9 x1 sk9)|exact HV2.it _ (i9 x1 sk9)) ?_);rintro r w' ⟨rfl,nxh,rfl⟩));go_wp2_with (first|(refine wpList_load_row rfl 34 (Operand.tmp 2) rfl q kr0 _ _ _ _ (by exact i7 sk9 k0) Tryz.underlying34 rfl (by rw[acs];kernel_rfl) ?_)|(refine j6 rfl 34 (Operand.tmp 4) _ rfl (q+2) cs rfl rfl 34 (qa sh0).toArray (by exact i7 sk9 k2) (by rw[lcs];kernel_rfl) (by rw[lcs];kernel_rfl) cs1 ?_)|(refine j6 rfl 36 (Operand.tmp 5) _ rfl (q+3) [.int .i64 0,.int .i64 0,.int .i64 0] rfl rfl 36 #[.int .i64 0,.int .i64 0,.int .i64 0] (by exact l9 (i7 sk9 k3) om0) kr0 rfl (by intro v hv;simp at hv;first|(subst hv;rfl)|(rcases hv with rfl|rfl<;>rfl)|(rcases hv with rfl|rfl|rfl<;>rfl)) ?_));exact bodyPost_ret (qy Tryz.results61 _ _ (q+2) (q+3) 34 36 _ #[.int .i64 0,.int .i64 0,.int .i64 0] _ _ (.int .i64 50) rfl rfl rfl (l9 (p9 (i7 sk9 k2)) om0) (p9 (l9 (i7 sk9 k3) om0)) Tryz.underlying34 rfl (by rw[acs];kernel_rfl) Tryz.underlying36 rfl kr0) rfl (N9 (h':=h) (x':=x) hcs (i7 sk9 k2) (i7 sk9 k3) om0 om0 om0 (i9 (i9 hT x1) sk9) (qB (qQ x1) (qQ sk9)) om0 om0 (fun e0=>absurd (show(50:Int)=0 from e0) dc0))
 obtain⟨rfl,hkn,hkg⟩:=hslot (by first|rfl|trivial);cases bm
 ·obtain rfl:ER=8:=by rw[←hER.it];rfl
  go_upto_region 16 with(first|(with_reducible refine wpList_load_row rfl 34 (Operand.tmp 2) rfl q kr0 _ _ _ _ (i7 (sk9) k0) Tryz.underlying34 rfl (by rw[acs];kernel_rfl) ?_)|(go_at_call 91;refine(Calls.mono (by first|exact HV1.it _ (i9 x1 sk9)|exact HV2.it _ (i9 x1 sk9)) ?_);rintro r w' ⟨rfl,nxh,rfl⟩)|(refine qY rfl 56 (Operand.tmp 65) rfl (q+1) 6 kr0 (fN e.nd) _ (fun j v hj=>qf sk9 (k9 k1 (hnd.it j v hj))) Tryz.underlying56 rfl kr0 ?_;simp only[Act.put,List.setIfInBounds_toArray,List.set_cons_succ,List.set_cons_zero])|(go_at_call 51;refine(CK.it _ (i9 x1 sk9)).mono ?_;rintro r w2 ⟨rfl,nx2,rfl⟩));go_wp2_with (first|(refine wpList_load_row rfl 34 (Operand.tmp 2) rfl q kr0 _ _ _ _ (by exact i7 sk9 k0) Tryz.underlying34 rfl (by rw[acs];kernel_rfl) ?_)|(refine j6 rfl 34 (Operand.tmp 4) _ rfl (q+2) cs rfl rfl 34 (qa sh0).toArray (by exact i7 sk9 k2) (by rw[lcs];kernel_rfl) (by rw[lcs];kernel_rfl) cs1 ?_)|(refine j6 rfl 36 (Operand.tmp 5) _ rfl (q+3) [.int .i64 0,.int .i64 0,.int .i64 0] rfl rfl 36 #[.int .i64 0,.int .i64 0,.int .i64 0] (by exact l9 (i7 sk9 k3) om0) kr0 rfl (by intro v hv;simp at hv;first|(subst hv;rfl)|(rcases hv with rfl|rfl<;>rfl)|(rcases hv with rfl|rfl|rfl<;>rfl)) ?_));exact bodyPost_ret (qy Tryz.results61 _ _ (q+2) (q+3) 34 36 _ #[.int .i64 0,.int .i64 0,.int .i64 0] _ _ (.int .i64 8) rfl rfl rfl (l9 (p9 (i7 sk9 k2)) om0) (p9 (l9 (i7 sk9 k3) om0)) Tryz.underlying34 rfl (by rw[acs];kernel_rfl) Tryz.underlying36 rfl kr0) rfl (N9 (h':=h) (x':=x) hcs (i7 sk9 k2) (i7 sk9 k3) om0 om0 om0 (i9 (i9 hT x1) sk9) (qB (qQ x1) (qQ sk9)) om0 om0 (fun e0=>absurd (show(8:Int)=0 from e0) dc0))
 go_upto_region 17 with(first|(with_reducible refine wpList_load_row rfl 34 (Operand.tmp 2) rfl q kr0 _ _ _ _ (i7 (sk9) k0) Tryz.underlying34 rfl (by rw[acs];kernel_rfl) ?_)|(go_at_call 91;refine(Calls.mono (by first|exact HV1.it _ (i9 x1 sk9)|exact HV2.it _ (i9 x1 sk9)) ?_);rintro r w' ⟨rfl,nxh,rfl⟩)|(refine qY rfl 56 (Operand.tmp 65) rfl (q+1) 6 kr0 (fN e.nd) _ (fun j v hj=>qf sk9 (k9 k1 (hnd.it j v hj))) Tryz.underlying56 rfl kr0 ?_;simp only[Act.put,List.setIfInBounds_toArray,List.set_cons_succ,List.set_cons_zero])|(go_at_call 51;refine(CK.it _ (i9 x1 sk9)).mono ?_;rintro r w2 ⟨rfl,nx2,rfl⟩));refine qz (fun w'=>∃y,w'=plus w1 y) sk9 ?_;rintro w2 x02;have U:=(BxI.mk (i9 hT x1) (O.ex x1) (hcs▸k0) hTq (qQ x1):BxI w T w1 q h x s).on x02;have k1_:=i7 x02 k1;have k2_:=i7 x02 k2;have k3_:=i7 x02 k3;have x12:=i9 x1 x02;clear k0 k1 k2 k3 e0 e1 e2 e3 e4 e5 z5 z6 l0 l1 c5 zq CK HV1 HV2 x1 x02;obtain⟨k1,k2,k3,x1⟩:=And.intro k1_ (And.intro k2_ (And.intro k3_ x12));clear k1_ k2_ k3_ x12;have k0:=U.bx;rw[hcs]at k0;have e1:=k9 k1 i1;have l0:=qi k0;have l1:=qi k1;have e6:w2.cell? ⟨q+1,6,none⟩=some (.int .u8 e.nd.f.kind):=k9 k1 (hnd.it 0 _ rfl);rw[hf]at e6;have hkn2:k<h.kn:=om0;obtain⟨gk,ok,hka,hgkl,hcell⟩:=hkl.lay.some om0;have kr:=qf x1 (O9 om0 hcell (k:=k) om0);have hrl:(nth [] s.g.ks k).length=(nth dRH x.gr k).n:=(hrow k om0).lay.len;obtain⟨rn,hrn⟩:∃v,(nth dRH x.gr k).n=v:=⟨_,rfl⟩;rw[hrn]at kr hrl;have c1:=k9 k0 j1;rw[hka]at c1;have ik3:(k:Int)<(h.kn:Int):=om0;have ik4:¬(k:Int)<0:=om0;obtain⟨kd,hkd⟩:∃v,n.f.kind=v:=⟨_,rfl⟩;rw[hkd]at e6;have hlk':lk=(decide (kd=5)&&decide (0<rn)):=by rw[←hlk,P0,hkd,hrl]
 replace hlk':=qw.mk hlk'
 clear hlk hrow hkl;by_cases h5:kd=5∧0<rn
 ·obtain⟨h5,hr0⟩:=h5;obtain rfl:lk=true:=by rw[hlk'.it,decide_eq_true h5,decide_eq_true hr0];rfl
  subst h5;obtain rfl:ER=100:=by rw[←hER.it];rfl
  have ir:(0:Int)<(rn:Int):=om0;go_upto_region 18 with fail;go_wp2_with (first|(refine wpList_load_row rfl 34 (Operand.tmp 2) rfl q kr0 _ _ _ _ (by exact i7 sk9 k0) Tryz.underlying34 rfl (by rw[acs];kernel_rfl) ?_)|(refine j6 rfl 34 (Operand.tmp 4) _ rfl (q+2) cs rfl rfl 34 (qa sh0).toArray (by exact i7 sk9 k2) (by rw[lcs];kernel_rfl) (by rw[lcs];kernel_rfl) cs1 ?_)|(refine j6 rfl 36 (Operand.tmp 5) _ rfl (q+3) [.int .i64 0,.int .i64 0,.int .i64 0] rfl rfl 36 #[.int .i64 0,.int .i64 0,.int .i64 0] (by exact l9 (i7 sk9 k3) om0) kr0 rfl (by intro v hv;simp at hv;first|(subst hv;rfl)|(rcases hv with rfl|rfl<;>rfl)|(rcases hv with rfl|rfl|rfl<;>rfl)) ?_));exact bodyPost_ret (qy Tryz.results61 _ _ (q+2) (q+3) 34 36 _ #[.int .i64 0,.int .i64 0,.int .i64 0] _ _ (.int .i64 100) rfl rfl rfl (l9 (p9 (i7 sk9 k2)) om0) (p9 (l9 (i7 sk9 k3) om0)) Tryz.underlying34 rfl (by rw[acs];kernel_rfl) Tryz.underlying36 rfl kr0) rfl (N9 (h':=h) (x':=x) hcs (i7 sk9 k2) (i7 sk9 k3) om0 om0 om0 (i9 (i9 hT x1) sk9) (qB (qQ x1) (qQ sk9)) om0 om0 (fun e0=>absurd (show(100:Int)=0 from e0) dc0))
 obtain rfl:lk=false:=by
  rw[hlk'.it];by_cases h6:kd=5
  ·rw[decide_eq_false (fun h7=>h5 ⟨h6,h7⟩),Bool.and_false]
  ·rw[decide_eq_false h6,Bool.false_and]
 obtain rfl:ER=0:=by rw[←hER.it];rfl
 have h7:kd≠5∨(kd=5∧rn=0):=by
  by_cases h6:kd=5
  ·exact .inr ⟨h6,by have:¬0<rn:=fun h8=>h5 ⟨h6,h8⟩;omega⟩
  ·exact .inl h6
 clear hlk' h5;rcases h7 with h6|⟨rfl,rfl⟩<;>(first
  |(have d5:(kd==5)=false:=by rw[beq_eq_false_iff_ne];exact h6
    go_upto_region 19 with fail;refine qz (fun w'=>BxI w T w' q h x s∧w'.heap[q+1]?=some (.cells ce.toArray 66)∧w'.heap[q+2]?=some (.cells (qa sh0).toArray 34)∧w'.heap[q+3]?=some (.cells #[.int .i64 0,.int .i64 0,.int .i64 0] 36)) ⟨U.on sk9,i7 sk9 k1,i7 sk9 k2,i7 sk9 k3⟩ ?_;clear k0 k1 k2 k3 e1 e6 c1 kr l0 l1 U)
  |(have ir:¬(0:Int)<((0:Nat):Int):=om0
    go_upto_region 19 with fail;refine qz (fun w'=>BxI w T w' q h x s∧w'.heap[q+1]?=some (.cells ce.toArray 66)∧w'.heap[q+2]?=some (.cells (qa sh0).toArray 34)∧w'.heap[q+3]?=some (.cells #[.int .i64 0,.int .i64 0,.int .i64 0] 36)) ⟨U.on sk9,i7 sk9 k1,i7 sk9 k2,i7 sk9 k3⟩ ?_;clear k0 k1 k2 k3 e1 e6 c1 kr l0 l1 U))<;>(
  rintro w7 ⟨U,k1,k2,k3⟩;have k0:=U.bx;have c2:=k9 (i:=2) k0 rfl;have e1:=k9 k1 i1;have hN1:=hE.nd.ex U.ex;obtain⟨g,cur,hna,hgT,hgb,hgz⟩:=U.own.nl.blk om0;rw[hna]at c2;have ik1:(k:Int)<(h.nn:Int):=om0;have ik2:¬(k:Int)<0:=om0;refine zJ 9 seS (seΦ T q g h.nn h.nc k e n) kr0 kr0 dc0 (a6j T q g h.nn h.nc k e n) ?steps ?fin
  case steps=>
   refine⟨?_,?_,?_,?_,?_,?_,?_,?_,?_,trivial⟩<;>intro a w' hg hfree hdeep<;>obtain⟨x,rfl⟩:=hg
   ·have f2_:=hfree 2 kr0;simp only[seΦ,got]at f2_;simp[go_sem]at f2_;unfold Oper.wp;simp[go_sem,execOp,Act.eval,↓IntWalk.iteOmega,f2_];exact⟨_,rfl,j5 _,by simp[seΦ,upd]⟩
   ·have d0:=hdeep 0 kr0;simp only[seΦ,got]at d0;have cc2:=qf ⟨x,rfl⟩ c2;unfold Oper.wp;simp[go_sem,execOp,Act.eval,↓IntWalk.iteOmega,d0,cc2];exact⟨_,rfl,j5 _,by simp[seΦ,upd]⟩
   ·have f3_:=hfree 3 kr0;simp only[seΦ,got]at f3_;simp[go_sem]at f3_;unfold Oper.wp;simp[go_sem,execOp,Act.eval,↓IntWalk.iteOmega,f3_];exact⟨_,rfl,j5 _,by simp[seΦ,upd]⟩
   ·have d2:=hdeep 2 kr0;simp only[seΦ,got]at d2;unfold Oper.wp;simp[go_sem,execOp,Act.eval,↓IntWalk.iteOmega,d2];exact⟨_,rfl,j5 _,by simp[seΦ,upd]⟩
   ·have d3:=hdeep 3 kr0;simp only[seΦ,got]at d3;have cc1:=qf ⟨x,rfl⟩ e1;unfold Oper.wp;simp[go_sem,execOp,Act.eval,↓IntWalk.iteOmega,d3,cc1];exact⟨_,rfl,j5 _,by simp[seΦ,upd]⟩
   ·have f3_:=hfree 3 kr0;simp only[seΦ,got]at f3_;simp[go_sem]at f3_;unfold Oper.wp;simp[go_sem,execOp,Act.eval,↓IntWalk.iteOmega,f3_];exact⟨_,rfl,j5 _,by simp[seΦ,upd]⟩
   ·have e9:=hdeep 5 kr0;simp only[seΦ,got]at e9;simp at e9;unfold Oper.wp;rw[zP 56 (Operand.tmp 94) rfl (q+1) 6 (by simp[Act.eval,e9]) (fN e.nd) _ (fun j v hj=>qf ⟨x,rfl⟩ (k9 k1 (hnd.it j v hj))) Tryz.underlying56 rfl kr0];exact⟨_,rfl,j5 _,by simp[seΦ,upd]⟩
   ·have e8:=hdeep 6 kr0;simp only[seΦ,got]at e8;simp at e8;unfold Oper.wp;simp[go_sem,execOp,Act.eval,↓IntWalk.iteOmega,e8];refine(af0 e.nd n _ (hN1.ex ⟨x,rfl⟩) hfar).mono ?_;rintro r w4 ⟨h3,rfl,hw4,o2⟩;exact⟨_,rfl,hw4,h3,by simp[upd];rfl,o2.base (qu (i9 U.ex ⟨x,rfl⟩))⟩
   ·have d1:=hdeep 1 kr0;have d4:=hdeep 4 kr0;simp only[seΦ,got]at d1 d4;unfold Oper.wp;simp[go_sem,execOp,Act.eval,↓IntWalk.iteOmega,d1,d4,ik1,ik2];exact⟨_,rfl,j5 _,by simp[seΦ,upd]⟩
  case fin=>
   rintro t9 w' ⟨x8,rfl⟩ hΦ;obtain⟨h3,r50,o3⟩:=hΦ 7 dc0;have r51:=hΦ 8 dc0;simp only[seΦ]at r51;simp only[zh,List.take_succ_cons,List.take_zero,List.drop_succ_cons,List.drop_zero,r50,r51];simp only[Act.put];simp only[List.setIfInBounds_toArray,List.set_cons_succ,List.set_cons_zero];clear hΦ r50 r51;have hgb8:=i7 (w':=plus w7 x8) ⟨x8,rfl⟩ hgb;have hO8:=(U.own.ex (w':=plus w7 x8) ⟨x8,rfl⟩).setNode hna hgb8 (k:=k) om0 o3;have hfit:k*33+(fN h3).length≤cur.size:=by show k*33+33≤_;have:(k+1)*33≤h.nn*33:=Nat.mul_le_mul_right _ om0;omega
   go_upto_region 33 with(refine zu rfl 56 _ _ rfl g (k*33) (fN h3) (by simp[go_sem]) rfl _ cur hgb8 kr0 hfit (aa4 h3) ?_);refine qz (fun w'=>BxI w T w' q h ⟨x.gr,x.nh.set k h3,x.mh,x.ph,x.th⟩ ⟨s.g,s.ns.set k n,s.ms,s.ts,s.root⟩∧w'.heap[q+1]?=some (.cells ce.toArray 66)∧w'.heap[q+2]?=some (.cells (qa sh0).toArray 34)∧w'.heap[q+3]?=some (.cells #[.int .i64 0,.int .i64 0,.int .i64 0] 36)) ?nm ?_
   case nm=>
    have gf:∀{g':Nat} {cc:Array Value} {t':TypeId},w7.heap[g']?=some (.cells cc t')→t'≠56→((plus w7 x8).setRow g (H6 cur (k*33) (fN h3))).heap[g']?=some (.cells cc t'):=fun hk hne=>l9 (i7 ⟨x8,rfl⟩ hk) (fun e=>by subst e;rw[hgb]at hk;cases hk;exact hne rfl)
    exact⟨⟨ql (i9 U.ex ⟨x8,rfl⟩) hgT,hO8,gf U.bx dc0,hTq,qB U.kp (qB (qQ ⟨x8,rfl⟩) (Zl hgb8 dc0))⟩,gf k1 dc0,gf k2 dc0,gf k3 dc0⟩
   clear k0 k1 k2 k3 c2 e1 hgb hgb8 hO8 U hna hfit o3 hcs;rintro w9 ⟨U,k1,k2,k3⟩;go_wp2_with (first|(refine wpList_load_row rfl 34 (Operand.tmp 2) rfl q kr0 _ _ _ _ (by exact i7 sk9 U.bx) Tryz.underlying34 rfl kr0 ?_)|(refine j6 rfl 34 (Operand.tmp 4) _ rfl (q+2) (qa h) rfl rfl 34 (qa sh0).toArray (by exact i7 sk9 k2) kr0 kr0 (qX _) ?_)|(refine j6 rfl 36 (Operand.tmp 5) _ rfl (q+3) [.int .i64 0,.int .i64 0,.int .i64 0] rfl rfl 36 #[.int .i64 0,.int .i64 0,.int .i64 0] (by exact l9 (i7 sk9 k3) om0) kr0 rfl (by intro v hv;simp at hv;first|(subst hv;rfl)|(rcases hv with rfl|rfl<;>rfl)|(rcases hv with rfl|rfl|rfl<;>rfl)) ?_));exact bodyPost_ret (qy Tryz.results61 _ _ (q+2) (q+3) 34 36 _ #[.int .i64 0,.int .i64 0,.int .i64 0] _ _ (.int .i64 0) rfl rfl rfl (l9 (p9 (i7 sk9 k2)) om0) (p9 (l9 (i7 sk9 k3) om0)) Tryz.underlying34 rfl kr0 Tryz.underlying36 rfl kr0) rfl (N9 (h':=h) (x':=_) rfl (i7 sk9 k2) (i7 sk9 k3) om0 om0 om0 (i9 U.ex sk9) (qB U.kp (qQ sk9)) om0 om0 (fun _=>U.own.ex sk9)))
end
end Go.Proofs.YtcekcihijdipoaaGreat
