/- A pack of texts: Mesh9, Mesh10, EdCk1, Nodes6, Nodes7, NodesS. -/
import Derived.Test.YtcekcihijdipoaaGreatPD19
namespace Go.Proofs.YtcekcihijdipoaaGreat
set_option maxRecDepth 100000
set_option maxHeartbeats 16000000
open Go.RowKit Go.ChangeShapes Go.WideShapes Go.ChangeAt
set_option linter.unusedSimpArgs false
set_option linter.unusedVariables false
attribute [local go_sem] qn qZ A2 zg zz zA t5 qJ zf qO qD t6
section
attribute [local go_sem] eqarr_40 nearr_40 larr_40
attribute [local go_sem] eqarr_137 nearr_137 larr_137
attribute [local go_sem] isnil_47
attribute [local go_sem] isnil_57
attribute [local go_sem] isnil_58
attribute [local go_sem] isnil_59
theorem D4(va ua pa:Option Addr)(vn vc un uc pn pc:Nat)(hs:List PH)(ps:List Pr)(w:World)(hpl:Lay fP w pa pn hs)(hpp:M3 w hs ps)(hvn:vn≤10000)(hpn:pn≤10000):
  Calls Tryz.prog 136 #[.agg #[.slice va vn vc,.slice ua un uc,.slice pa pn pc]] w fun e w'=>e=.returned (.bool (az5 vn ps))∧Below w.heap.size w w':=by
 have hpl1:=hpl.len;have hpl2:=hpp.len;have iwv:IntKind.i64.wrap ((vn:Int) - 1)=(vn:Int) - 1:=by
  simp[IntKind.wrap,IntKind.bits,IntKind.signed];omega
 go_enter Tryz.func136,Tryz.ntmps136;go_wp2;go_loopw [3,11] (fun c i wr=>∃k:Nat,k≤pn∧c=.int .i64 (T4 ps k)∧i=.int .i64 k∧(∀j,j<k→pOk vn (nth dPr ps j)=true)∧∃x,wr=plus (w.alloc (.cells #[.slice va vn vc,.slice ua un uc,.slice pa pn pc] 61)) x) (fun _ i _=>pn - (intOf i).toNat)
 case atStart=>exact⟨0,Nat.zero_le _,rfl,rfl,fun j hj=>om0,skM⟩
 case round=>
  obtain⟨k,hk,rfl,rfl,hs1,x,rfl⟩:=hrel;have hT:=ay0 (ps:=ps) (k:=k) om0 (a5s hs1);by_cases hkl:k<pn
  ·obtain⟨g,off,rfl,hg,hcell⟩:=hpl.some om0;have hsucc:=af7 (ps:=ps) (k:=k) om0;obtain⟨d0,d1⟩:=a1o hpl.len hcell (k:=k) hkl;have hp:=hpp.one k (by rw[hpl.len];exact hkl);generalize hpe:nth dPr ps k=p at*;generalize hhe:nth dPH hs k=hh at*;obtain⟨kind,ao1,n1,cap1⟩:=hh;obtain⟨kind2,ix⟩:=p;obtain⟨hk1,hk2,hk3,hk4,hk5,hk6⟩:=hp;simp only at d0 d1 hk1 hk2 hk3 hk4 hk5 hk6;subst hk1;have ik:(k:Int)<(pn:Int):=om0;have hixl:=hk6.len;rcases a2N ⟨kind,ix⟩with he|he|he|he
   ·go_wp2_with (go_at_call 173;refine(QY _ _ _ _ ix _ hk2 (hk6.ex snM) hk4).mono ?_;rintro e w1 ⟨ao2,m1,cap2,rfl,hw1,hl1⟩;rw[he];have a0:w1.cell? ⟨w.heap.size,0,none⟩=some (.slice va vn vc):=qf hw1 (by simp[go_sem,↓IntWalk.iteOmega]);have a1:w1.cell? ⟨w.heap.size+1+(blocks x).size,1,none⟩=some (.slice ao1 n1 cap1):=qf hw1 (by simp[go_sem,↓IntWalk.iteOmega]);have hz1:=zC a0;have hz2:=zC a1);go_ret;exact⟨by rw[show az5 vn ps=false by rw[az5,C1 (d:=dPr) (k:=k) om0 (by rw[hpe];exact Zq (by rw[he];decide)),Bool.false_and]];rfl,B5 snM⟩
   ·go_wp2_with (go_at_call 173;refine(QY _ _ _ _ ix _ hk2 (hk6.ex snM) hk4).mono ?_;rintro e w1 ⟨ao2,m1,cap2,rfl,hw1,hl1⟩;rw[he];have a0:w1.cell? ⟨w.heap.size,0,none⟩=some (.slice va vn vc):=qf hw1 (by simp[go_sem,↓IntWalk.iteOmega]);have a1:w1.cell? ⟨w.heap.size+1+(blocks x).size,1,none⟩=some (.slice ao1 n1 cap1):=qf hw1 (by simp[go_sem,↓IntWalk.iteOmega]);have hz1:=zC a0;have hz2:=zC a1);go_ret;exact⟨by rw[show az5 vn ps=false by rw[az5,C1 (d:=dPr) (k:=k) om0 (by rw[hpe];exact Zq (by rw[he];decide)),Bool.false_and]];rfl,B5 snM⟩
   ·go_wp2_with (go_at_call 173;refine(QY _ _ _ _ ix _ hk2 (hk6.ex snM) hk4).mono ?_;rintro e w1 ⟨ao2,m1,cap2,rfl,hw1,hl1⟩;rw[he];have a0:w1.cell? ⟨w.heap.size,0,none⟩=some (.slice va vn vc):=qf hw1 (by simp[go_sem,↓IntWalk.iteOmega]);have a1:w1.cell? ⟨w.heap.size+1+(blocks x).size,1,none⟩=some (.slice ao1 n1 cap1):=qf hw1 (by simp[go_sem,↓IntWalk.iteOmega]);have hz1:=zC a0;have hz2:=zC a1);go_ret;exact⟨by rw[show az5 vn ps=false by rw[az5,C1 (d:=dPr) (k:=k) om0 (by rw[hpe];exact Zq (by rw[he];decide)),Bool.false_and]];rfl,B5 snM⟩
   have h200:=a7g he;have h200':=ae5 he;simp only at h200;cases hi:ix.all (inR 0 ((vn:Int) - 1))
   ·go_wp2_with (first|(go_at_call 173;refine(QY _ _ _ _ ix _ hk2 (hk6.ex snM) hk4).mono ?_;rintro e w1 ⟨ao2,m1,cap2,rfl,hw1,hl1⟩;rw[he];have a0:w1.cell? ⟨w.heap.size,0,none⟩=some (.slice va vn vc):=qf hw1 (by simp[go_sem,↓IntWalk.iteOmega]);have a1:w1.cell? ⟨w.heap.size+1+(blocks x).size,1,none⟩=some (.slice ao1 n1 cap1):=qf hw1 (by simp[go_sem,↓IntWalk.iteOmega]);have hz1:=zC a0;have hz2:=zC a1)|(go_at_call 172;refine pm0 (N2 _ _ _ _ _ ix _ (hk6.ex snM) om0) fun nx=>?_;rw[hi]));go_ret;exact⟨by rw[show az5 vn ps=false by rw[az5,C1 (d:=dPr) (k:=k) om0 (by rw[hpe];exact a2O hi),Bool.false_and]];rfl,B5 snM⟩
   ·have hm1:∀m1:Nat,(ak2 ⟨kind,ix⟩).length=m1→T4 ps (k+1)=T4 ps k+m1:=by
     intro m1 h1;rw[H4 he]at h1;rw[hsucc,h1]
    go_wp2_with (first|(go_at_call 173;refine(QY _ _ _ _ ix _ hk2 (hk6.ex snM) hk4).mono ?_;rintro e w1 ⟨ao2,m1,cap2,rfl,hw1,hl1⟩;rw[he];have a0:w1.cell? ⟨w.heap.size,0,none⟩=some (.slice va vn vc):=qf hw1 (by simp[go_sem,↓IntWalk.iteOmega]);have a1:w1.cell? ⟨w.heap.size+1+(blocks x).size,1,none⟩=some (.slice ao1 n1 cap1):=qf hw1 (by simp[go_sem,↓IntWalk.iteOmega]);have hz1:=zC a0;have hz2:=zC a1;have hsc:=hm1 m1 hl1.len;have iws:IntKind.i64.wrap ((T4 ps k:Int)+(m1:Int))=(T4 ps k:Int)+(m1:Int):=L1 om0)|(go_at_call 172;refine pm0 (N2 _ _ _ _ _ ix _ (hk6.ex snM) om0) fun nx=>?_;rw[hi]));go_roundw
    case rel=>exact⟨k+1,om0,by go_num,by go_num,C4 hs1 (by rw[hpe];exact a41 he hi),snM⟩
    case measure=>simp[intOf];omega
  ·have ik:¬(k:Int)<(pn:Int):=om0;obtain rfl:k=pn:=om0;by_cases h64:T4 ps k≤64
   ·have i64:(T4 ps k:Int)≤64:=om0;go_wp2;go_ret;exact⟨by rw[show az5 vn ps=true by rw[az5,K5 (d:=dPr) (fun j hj=>hs1 j om0),Bool.true_and,←hpl2,hpl1,decide_eq_true h64]];rfl,skB⟩
   ·have i64:¬(T4 ps k:Int)≤64:=om0;have d64:decide ((T4 ps k:Int)≤64)=false:=decide_eq_false i64;go_wp2;go_ret;exact⟨by rw[show az5 vn ps=false by rw[az5,←hpl2,hpl1,decide_eq_false h64,Bool.and_false]];rfl,skB⟩
end
section
attribute [local go_sem] eqarr_40 nearr_40 larr_40
attribute [local go_sem] eqarr_137 nearr_137 larr_137
attribute [local go_sem] isnil_47
attribute [local go_sem] isnil_57
attribute [local go_sem] isnil_58
attribute [local go_sem] isnil_59
theorem a0M(va ua pa:Option Addr)(vn vc un uc pn pc:Nat)(hs:List PH)(m:Ms)(w:World)(hm:I6 w ⟨va,vn,vc,ua,un,uc,pa,pn,pc⟩ hs m):
  Calls Tryz.prog 77 #[.agg #[.slice va vn vc,.slice ua un uc,.slice pa pn pc]] w fun e w'=>e=.returned (.int .i64 (L3 m))∧Below w.heap.size w w':=by
 have hvl:Lay fV w va vn m.vs:=hm.vl;have hul:Lay f2 w ua un m.uv:=hm.ul;have hpl:Lay fP w pa pn hs:=hm.pl;have hpp:M3 w hs m.ps:=hm.pp;have lv:=hvl.len;have lu:=hul.len;have lp:=hpl.len;have lq:=hpp.len;by_cases h1:64<vn
 ·rw[show L3 m=4 from if_pos (.inl om0)];have i1:(64:Int)<(vn:Int):=om0;go_enter Tryz.func77,Tryz.ntmps77;go_wp2_with (first|(go_at_call 134;refine pm0 (E5 _ _ _ m.vs _ (hvl.ex skM) om0) fun nx=>?_;rw[hv])|(go_at_call 135;refine pm0 (G6 _ _ _ m.uv _ (hul.ex skM) om0) fun nx=>?_;rw[hu])|(go_at_call 136;refine pm0 (D4 _ _ _ _ _ _ _ _ _ hs m.ps _ (hpl.ex skM) (hpp.ex skM) om0 om0) fun nx=>?_;rw[hp]));go_ret;exact⟨rfl,skB⟩
 have i1:¬(64:Int)<(vn:Int):=om0;by_cases h2:64<un
 ·rw[show L3 m=4 from if_pos (.inr (.inl om0))];have i2:(64:Int)<(un:Int):=om0;go_enter Tryz.func77,Tryz.ntmps77;go_wp2_with (first|(go_at_call 134;refine pm0 (E5 _ _ _ m.vs _ (hvl.ex skM) om0) fun nx=>?_;rw[hv])|(go_at_call 135;refine pm0 (G6 _ _ _ m.uv _ (hul.ex skM) om0) fun nx=>?_;rw[hu])|(go_at_call 136;refine pm0 (D4 _ _ _ _ _ _ _ _ _ hs m.ps _ (hpl.ex skM) (hpp.ex skM) om0 om0) fun nx=>?_;rw[hp]));go_ret;exact⟨rfl,skB⟩
 have i2:¬(64:Int)<(un:Int):=om0;by_cases h3:16<pn
 ·rw[show L3 m=4 from if_pos (.inr (.inr om0))];have i3:(16:Int)<(pn:Int):=om0;go_enter Tryz.func77,Tryz.ntmps77;go_wp2_with (first|(go_at_call 134;refine pm0 (E5 _ _ _ m.vs _ (hvl.ex skM) om0) fun nx=>?_;rw[hv])|(go_at_call 135;refine pm0 (G6 _ _ _ m.uv _ (hul.ex skM) om0) fun nx=>?_;rw[hu])|(go_at_call 136;refine pm0 (D4 _ _ _ _ _ _ _ _ _ hs m.ps _ (hpl.ex skM) (hpp.ex skM) om0 om0) fun nx=>?_;rw[hp]));go_ret;exact⟨rfl,skB⟩
 have i3:¬(16:Int)<(pn:Int):=om0;have hM:¬(64<m.vs.length∨64<m.uv.length∨16<m.ps.length):=om0;rw[L3,if_neg hM];cases hv:m.vs.all vOk
 ·rw[show ZP m=false by simp[ZP,hv]];go_enter Tryz.func77,Tryz.ntmps77;go_wp2_with (first|(go_at_call 134;refine pm0 (E5 _ _ _ m.vs _ (hvl.ex skM) om0) fun nx=>?_;rw[hv])|(go_at_call 135;refine pm0 (G6 _ _ _ m.uv _ (hul.ex skM) om0) fun nx=>?_;rw[hu])|(go_at_call 136;refine pm0 (D4 _ _ _ _ _ _ _ _ _ hs m.ps _ (hpl.ex skM) (hpp.ex skM) om0 om0) fun nx=>?_;rw[hp]));go_ret;exact⟨rfl,skB⟩
 by_cases he:un=vn;rotate_left
 ·rw[show ZP m=false by(have:¬m.uv.length=m.vs.length:=om0);simp[ZP,this]];have ie:¬(un:Int)=(vn:Int):=om0;have de:((un:Int)==(vn:Int))=false:=by rw[beq_eq_false_iff_ne];omega
  go_enter Tryz.func77,Tryz.ntmps77;go_wp2_with (first|(go_at_call 134;refine pm0 (E5 _ _ _ m.vs _ (hvl.ex skM) om0) fun nx=>?_;rw[hv])|(go_at_call 135;refine pm0 (G6 _ _ _ m.uv _ (hul.ex skM) om0) fun nx=>?_;rw[hu])|(go_at_call 136;refine pm0 (D4 _ _ _ _ _ _ _ _ _ hs m.ps _ (hpl.ex skM) (hpp.ex skM) om0 om0) fun nx=>?_;rw[hp]));go_ret;exact⟨rfl,skB⟩
 subst he;cases hu:m.uv.all uOk
 ·rw[show ZP m=false by simp[ZP,hu]];go_enter Tryz.func77,Tryz.ntmps77;go_wp2_with (first|(go_at_call 134;refine pm0 (E5 _ _ _ m.vs _ (hvl.ex skM) om0) fun nx=>?_;rw[hv])|(go_at_call 135;refine pm0 (G6 _ _ _ m.uv _ (hul.ex skM) om0) fun nx=>?_;rw[hu])|(go_at_call 136;refine pm0 (D4 _ _ _ _ _ _ _ _ _ hs m.ps _ (hpl.ex skM) (hpp.ex skM) om0 om0) fun nx=>?_;rw[hp]));go_ret;exact⟨rfl,skB⟩
 cases hp:az5 un m.ps
 ·rw[show ZP m=false by rw[ZP,lv,hp,Bool.and_false]];go_enter Tryz.func77,Tryz.ntmps77;go_wp2_with (first|(go_at_call 134;refine pm0 (E5 _ _ _ m.vs _ (hvl.ex skM) om0) fun nx=>?_;rw[hv])|(go_at_call 135;refine pm0 (G6 _ _ _ m.uv _ (hul.ex skM) om0) fun nx=>?_;rw[hu])|(go_at_call 136;refine pm0 (D4 _ _ _ _ _ _ _ _ _ hs m.ps _ (hpl.ex skM) (hpp.ex skM) om0 om0) fun nx=>?_;rw[hp]));go_ret;exact⟨rfl,skB⟩
 rw[show ZP m=true by rw[ZP,lv,lu,hv,hu,hp];simp];go_enter Tryz.func77,Tryz.ntmps77;go_wp2_with (first|(go_at_call 134;refine pm0 (E5 _ _ _ m.vs _ (hvl.ex skM) om0) fun nx=>?_;rw[hv])|(go_at_call 135;refine pm0 (G6 _ _ _ m.uv _ (hul.ex skM) om0) fun nx=>?_;rw[hu])|(go_at_call 136;refine pm0 (D4 _ _ _ _ _ _ _ _ _ hs m.ps _ (hpl.ex skM) (hpp.ex skM) om0 om0) fun nx=>?_;rw[hp]));go_ret;exact⟨rfl,skB⟩
end
section
theorem V7(h:NH)(ao:Option Addr)(n cap:Nat){b:Bool}(hb:(!decide (h.f.kind=5)||decide (n=0))=b)(w:World):Calls Tryz.prog 120 #[vN h,.slice ao n cap] w fun e w'=>e=.returned (.bool b)∧∃y,w'=plus w y:=by
 subst hb;show Calls Tryz.prog 120 #[.agg (fN h).toArray,.slice ao n cap] w fun e w'=>e=.returned (.bool (!decide (h.f.kind=5)||decide (n=0)))∧∃y,w'=plus w y
 have hkind:=ZL h;obtain⟨kd,hk⟩:∃k,h.f.kind=k:=⟨_,rfl⟩;rw[hk]at hkind ⊢;obtain⟨cs,hcs⟩:∃cs,fN h=cs:=⟨_,rfl⟩;rw[hcs]at hkind ⊢;clear hcs hk;by_cases h5:kd=5
 ·subst h5;by_cases h0:n=0
  ·subst h0;go_enter Tryz.func120,Tryz.ntmps120;go_upto_region 1 with fail;refine qz (fun w'=>(∃y,w'=plus w y)∧w'.heap[w.heap.size]?=some (.cells cs.toArray 56)) ⟨sk9,qc _ _⟩ ?_;rintro w1 ⟨x1,k1⟩;have p0:=k9 k1 hkind;go_wp2;go_ret;exact⟨rfl,i9 x1 sk9⟩
  ·have d0:((n:Int)==0)=false:=by rw[beq_eq_false_iff_ne];omega
   go_enter Tryz.func120,Tryz.ntmps120;go_upto_region 1 with fail;refine qz (fun w'=>(∃y,w'=plus w y)∧w'.heap[w.heap.size]?=some (.cells cs.toArray 56)) ⟨sk9,qc _ _⟩ ?_;rintro w1 ⟨x1,k1⟩;have p0:=k9 k1 hkind;go_wp2;go_ret;exact⟨by simp[h0],i9 x1 sk9⟩
 ·have d5:(kd==5)=false:=by rw[beq_eq_false_iff_ne];exact h5
  go_enter Tryz.func120,Tryz.ntmps120;go_upto_region 1 with fail;refine qz (fun w'=>(∃y,w'=plus w y)∧w'.heap[w.heap.size]?=some (.cells cs.toArray 56)) ⟨sk9,qc _ _⟩ ?_;rintro w1 ⟨x1,k1⟩;have p0:=k9 k1 hkind;go_wp2;go_ret;exact⟨by simp[h5],i9 x1 sk9⟩
def a9o (s:Sc) (k:Nat) (n:Nd):Bool:=if (nth dSl s.g.sl k).live then ze s.ms.length s.ts.length n&&(!decide (n.f.kind=5)||decide ((nth [] s.g.ks k).length=0))else z7 n nd0
theorem a4W{s:Sc}{k:Nat}:J5 s k=a9o s k (nth nd0 s.ns k):=by
 unfold a9o J5 P0;cases hv:(nth dSl s.g.sl k).live
 ·cases hs:z7 (nth nd0 s.ns k) nd0
  ·rfl
  ·rw[a0V hs];rfl
 ·cases ze s.ms.length s.ts.length (nth nd0 s.ns k)
  ·rfl
  ·by_cases h5:(nth nd0 s.ns k).f.kind=5<;>by_cases h0:(nth [] s.g.ks k).length=0<;>simp[h5,h0]<;>omega
theorem ar5(gs go ks ko:Nat)(na ma ta:Option Addr)(gn gc kn kc nn nc mn mc tn tc:Nat)(r0 r1:Int)(k:Nat)(h:NH)(n:Nd)(lv:Bool)(ra:Option Addr)(rn rc:Nat){v:Bool}(w:World)(hN:G0 w h n)(s1:h.n≤10000)
  (kv:w.cell? ⟨gs,go+k*2+1,none⟩=some (.bool lv)) (kr:w.cell? ⟨ks,ko+k,none⟩=some (.slice ra rn rc)) (hk:k<gn) (hk2:k<kn) (hv:(if lv then ze mn tn n&&(!decide (n.f.kind=5)||decide (rn=0))else z7 n nd0)=v):
  Calls Tryz.prog 74 #[.agg #[.slice (some ⟨gs,go,none⟩) gn gc,.slice (some ⟨ks,ko,none⟩) kn kc,.slice na nn nc,.slice ma mn mc,.slice ta tn tc,.int .i64 r0,.int .i64 r1],.int .i64 k,vN h] w fun e w'=>e=.returned (.bool v)∧∃y,w'=plus w y:=by
 show Calls Tryz.prog 74 #[.agg #[.slice (some ⟨gs,go,none⟩) gn gc,.slice (some ⟨ks,ko,none⟩) kn kc,.slice na nn nc,.slice ma mn mc,.slice ta tn tc,.int .i64 r0,.int .i64 r1],.int .i64 k,.agg (fN h).toArray] w fun e w'=>e=.returned (.bool v)∧∃y,w'=plus w y
 have ik:(k:Int)<(gn:Int):=om0;have ik2:(k:Int)<(kn:Int):=om0;have hkd:n.f.kind=h.f.kind:=by rw[hN.f]
 rw[hkd]at hv;obtain⟨bm,hbm⟩:∃b,ze mn tn n=b:=⟨_,rfl⟩;obtain⟨bf,hbf⟩:∃b,(!decide (h.f.kind=5)||decide (rn=0))=b:=⟨_,rfl⟩;rw[hbm,hbf]at hv
 replace hv:=qw.mk hv
 have kB:=ar8;obtain⟨b,hb⟩:∃b,w.heap.size=b:=⟨_,rfl⟩;go_enter Tryz.func74,Tryz.ntmps74;go_upto_region 1 with fail;refine qz (fun w'=>(∃y,w'=plus w y)∧w'.heap[b]?=some (.cells #[.slice (some ⟨gs,go,none⟩) gn gc,.slice (some ⟨ks,ko,none⟩) kn kc,.slice na nn nc,.slice ma mn mc,.slice ta tn tc,.int .i64 r0,.int .i64 r1] 34)∧w'.heap[b+1]?=some (.cells (fN h).toArray 56)) ⟨sk9,hb▸qm (qc _ _),by rw[←hb,←j8 w];exact qc _ _⟩ ?_
 try simp only[hb]
 rintro w1 ⟨x1,k0,k1⟩;have c0:=i6 (i:=0) k0 rfl;have c1:=i6 (i:=1) k0 rfl;have c2:=i6 (i:=2) k0 rfl;have c3:=i6 (i:=3) k0 rfl;have c4:=i6 (i:=4) k0 rfl;have c5:=i6 (i:=5) k0 rfl;have c6:=i6 (i:=6) k0 rfl;have qv:=qf x1 kv;have qr:=qf x1 kr;have hNa:=hN.ex x1;have l1:=qi k1;have l2:=zC qv;have l3:=zC qr;cases lv
 ·go_wp2_with (first|(refine wpList_load_row rfl 56 _ rfl (b+1) rfl _ _ _ _ k1 Tryz.underlying56 rfl kr0 ?_)|(refine z8 rfl 56 _ rfl (fN nh0) ?hf ?_;case hf=>(simp only[List.map_toArray,List.map_cons,List.map_nil];kernel_rfl))|(go_at_call 48;refine pq0 (T1 (h2:=nh0) (hNa.ex sk9) (a7f _) s1 dc0 hv.it) fun nx=>?_));go_ret;exact⟨rfl,i9 x1 sk9⟩
 cases bm
 ·obtain rfl:false=v:=hv.it;go_upto_region 3 with fail;refine qg kr0 kr0 ?_
  (repeat(first|go_big_quiet_skip|(refine qL 56 _ rfl (b+1) 0 rfl (fN h) _ (fun w' hw j v hj=>qf (by first|exact hw|exact i9 sk9 hw) (by rw[Nat.zero_add];exact k9 k1 hj)) Tryz.underlying56 rfl kr0 kr0 ?_;simp only[Act.put,List.setIfInBounds_toArray,List.set_cons_succ,List.set_cons_zero])|go_big_quiet_step (first|(go_at_call 17;exact C9 (ap0 (hNa.ex sk9) s1 hbm))|(go_at_call 120;exact C9 (V7 h _ _ _ hbf _)))))
  refine wpQuiet_nil ?_;rintro _ ⟨x2,rfl⟩;go_wp2;go_ret;exact⟨rfl,i9 x1 sk9⟩
 ·obtain rfl:bf=v:=hv.it;go_upto_region 3 with fail;refine qg kr0 kr0 ?_
  (repeat(first|go_big_quiet_skip|(refine qL 56 _ rfl (b+1) 0 rfl (fN h) _ (fun w' hw j v hj=>qf (by first|exact hw|exact i9 sk9 hw) (by rw[Nat.zero_add];exact k9 k1 hj)) Tryz.underlying56 rfl kr0 kr0 ?_;simp only[Act.put,List.setIfInBounds_toArray,List.set_cons_succ,List.set_cons_zero])|go_big_quiet_step (first|(go_at_call 17;exact C9 (ap0 (hNa.ex sk9) s1 hbm))|(go_at_call 120;exact C9 (V7 h _ _ _ hbf _)))))
  refine wpQuiet_nil ?_;rintro _ ⟨x2,rfl⟩;go_wp2;go_ret;exact⟨rfl,i9 x1 sk9⟩
theorem J9(ga ka na ma ta:Option Addr)(gn gc kn kc nn nc mn mc tn tc:Nat)(r0 r1:Int)(a0 a1:Int)(l:List Sl)(w:World)(hl:Lay fS w ga gn l)(hn:gn≤1000)(hok:S5 l=true){v:Bool}(hv:(decide ((a0,a1)=((0,0):Int × Int))||qG l a0 a1)=v):
  Calls Tryz.prog 31 #[.agg #[.slice ga gn gc,.slice ka kn kc,.slice na nn nc,.slice ma mn mc,.slice ta tn tc,.int .i64 r0,.int .i64 r1],.agg #[.int .i64 a0,.int .i64 a1]] w fun e w'=>e=.returned (.bool v)∧∃y,w'=plus w y:=by
 obtain⟨br,hbr⟩:∃b,eqh a0 a1 0 0=b:=⟨_,rfl⟩;have qH:=aq9 hbr;have hroot:decide ((a0,a1)=((0,0):Int × Int))=br:=by
  rw[←hbr];by_cases e0:a0=0<;>by_cases e1:a1=0<;>simp[eqh,e0,e1]
 rw[hroot]at hv;clear hroot hbr;obtain⟨bh,hbh⟩:∃b,qG l a0 a1=b:=⟨_,rfl⟩;have hho:ZO l a0 a1=bh:=by rw[ZO,hok,hbh];rfl
 rw[hbh]at hv
 replace hv:=qw.mk hv
 replace hho:=qw.mk hho
 cases br
 ·obtain rfl:bh=v:=hv.it;go_enter Tryz.func31,Tryz.ntmps31;go_wp2_with (go_at_call 79;refine pm0 (hho.it▸R1 _ _ _ l _ _ _ (hl.ex sk9) om0) fun nx=>?_);go_ret;exact⟨rfl,sk9⟩
 ·obtain rfl:true=v:=hv.it;go_enter Tryz.func31,Tryz.ntmps31;go_wp2_with fail;go_ret;exact⟨rfl,sk9⟩
end
section
def a9V (g:Gr) (h:Int × Int):List (Int × Int):=if zH g h h=0 then K0 g h else[]
def a8V (g:Gr) (h:Int × Int):List (Int × Int):=if zH g h h=0 then al6 g h g.ks.length else[]
def a96 (g:Gr) (a b:Int × Int):Bool:=if zH g a b=0 then ab7 g a b else false
theorem a1d{g:Gr}{a b:Int × Int}(h:zH g a b=0):QV g=true∧qG g.sl a.1 a.2=true∧qG g.sl b.1 b.2=true:=by
 unfold zH at h;split at h
 ·rename_i hg;split at h
  ·rename_i hh;exact⟨hg,hh.1,hh.2⟩
  ·cases h
 ·cases h
theorem H0{ao:Option Addr}{n cap:Nat}{ko:Option Addr}{kn kcap:Nat}{hs:List RH}{g:Gr}{h1 h2 i1 i2 er:Int}{w:World}(he:zH g (h1,h2) (i1,i2)=er)(hG:QL w ao n ko kn hs g):
  Calls Tryz.prog 157 #[.agg #[.slice ao n cap,.slice ko kn kcap],.agg #[.int .i64 h1,.int .i64 h2],.agg #[.int .i64 i1,.int .i64 i2]] w fun e w'=>e=.returned (.int .i64 er)∧Below w.heap.size w w':=by
 subst he;exact a15 ao n cap ko kn kcap hs g h1 h2 i1 i2 w hG
theorem ak3(g:Gr)(a b:Int × Int):zH g a b=0∨zH g a b=8∨zH g a b=50:=by
 unfold zH;split
 ·split
  ·exact .inl rfl
  ·exact .inr (.inr rfl)
 ·exact .inr (.inl rfl)
theorem a0c(ao:Option Addr)(n cap:Nat)(l:List (Int × Int))(s g:Int)(w:World)(hl:Lay f2 w ao n l)(hn:n≤1000):
  Calls Tryz.prog 160 #[.slice ao n cap,.agg #[.int .i64 s,.int .i64 g]] w fun e w'=>a7z 32 2 f2 w (v7 (s,g) l) e w':=by
 have hlen:=hl.len;go_enter Tryz.func160,Tryz.ntmps160;go_wp2;go_loopw [5,6] (fun v i wr=>∃(k:Nat) (ao':Option Addr) (cap':Nat),k≤n∧v=.slice ao' (v7 (s,g) (l.take k)).length cap'∧i=.int .i64 k∧(∃y,wr=plus (w.alloc (.cells #[.int .i64 s,.int .i64 g] 32)) y)∧Own 32 2 f2 (w.alloc (.cells #[.int .i64 s,.int .i64 g] 32)) wr ao' (v7 (s,g) (l.take k)).length cap' (v7 (s,g) (l.take k))) (fun _ i _=>n - (intOf i).toNat)
 case atStart=>exact⟨0,none,0,Nat.zero_le _,rfl,rfl,sk0,zd⟩
 case round=>
  obtain⟨k,ao',cap',hk,rfl,rfl,⟨x,rfl⟩,hown⟩:=hrel;have hle:(v7 (s,g) (l.take k)).length≤k:=Nat.le_trans (List.length_filter_le _ _) (by rw[List.length_take];omega);by_cases hkl:k<n;rotate_left
  ·have ik:¬(k:Int)<(n:Int):=om0;obtain rfl:k=n:=om0;rw[List.take_of_length_le om0]at hown;go_wp2;go_ret;refine⟨ao',_,cap',?_,sk0,hown.base (by simp[go_sem])⟩;rw[List.take_of_length_le om0];rfl
  have ik:(k:Int)<(n:Int):=om0;obtain⟨g1,o1,rfl,hg1,hc1⟩:=hl.some om0;obtain⟨c0,c1⟩:=Y4 hlen hc1 hkl;have hsucc:v7 (s,g) (l.take (k+1))=v7 (s,g) (l.take k)++(if nth (0,0) l k=(s,g)then[]else[nth (0,0) l k]):=by
   rw[P1 (d:=((0,0):Int × Int)) om0,v7,List.filter_append]
   congr 1
   split
   ·rename_i e;simp[e]
   ·rename_i e;simp[e]
  by_cases e0:(nth (0,0) l k).1=s
  ·by_cases e1:(nth (0,0) l k).2=g
   ·have hs:v7 (s,g) (l.take (k+1))=v7 (s,g) (l.take k):=by rw[hsucc,if_pos (Prod.ext e0 e1),List.append_nil]
    go_wp2;refine qg kr0 kr0 ?_
    (repeat(go_big_quiet_step (fail)))
    refine wpQuiet_nil ?_;rintro _ ⟨x2,rfl⟩;go_wp2;go_roundw
    case rel=>exact⟨k+1,ao',cap',om0,by rw[hs],by go_num,sk0,by rw[hs];exact hown.ex sk0⟩
    case measure=>simp[intOf];omega
   ·have d1:((nth (0,0) l k).2==g)=false:=by rw[beq_eq_false_iff_ne];exact e1
    have hs:v7 (s,g) (l.take (k+1))=v7 (s,g) (l.take k)++[nth (0,0) l k]:=by rw[hsucc,if_neg (fun e=>e1 (by rw[e]))]
    have hsn:(v7 (s,g) (l.take (k+1))).length=(v7 (s,g) (l.take k)).length+1:=by rw[hs,List.length_append];rfl
    go_wp2;refine qg kr0 kr0 ?_
    (repeat(go_big_quiet_step (fail)))
    refine wpQuiet_nil ?_;rintro _ ⟨x2,rfl⟩;go_wp2_with (at_builtin;(refine qo (T:=(w.alloc (.cells #[.int .i64 s,.int .i64 g] 32))) rfl _ _ rfl ad6 Q1 ZV rfl sk0 (hown.ex sk0) rfl (l2:=[nth (0,0) l k]) ⟨rfl,.inr ⟨_,0,rfl,by(simp[go_sem];try omega),fun jj u hu=>by match jj,hu with|0,hu=>(simp[f2]at hu;subst hu;simp[go_sem,↓IntWalk.iteOmega];try(first|exact e0|exact e0.symm))|1,hu=>(simp[f2]at hu;subst hu;simp[go_sem,↓IntWalk.iteOmega])|jj+2,hu=>simp[f2]at hu⟩⟩ om0 dc0 ?_;intro ao'' cap'' y' hown'));go_roundw
    case rel=>exact⟨k+1,ao'',cap'',om0,by rw[hsn],by go_num,⟨y',rfl⟩,by rw[hsn,hs];exact hown'⟩
    case measure=>simp[intOf];omega
  ·have d0:((nth (0,0) l k).1==s)=false:=by rw[beq_eq_false_iff_ne];exact e0
   have hs:v7 (s,g) (l.take (k+1))=v7 (s,g) (l.take k)++[nth (0,0) l k]:=by rw[hsucc,if_neg (fun e=>e0 (by rw[e]))]
   have hsn:(v7 (s,g) (l.take (k+1))).length=(v7 (s,g) (l.take k)).length+1:=by rw[hs,List.length_append];rfl
   go_wp2;refine qg kr0 kr0 ?_
   (repeat(go_big_quiet_step (fail)))
   refine wpQuiet_nil ?_;rintro _ ⟨x2,rfl⟩;go_wp2_with (at_builtin;(refine qo (T:=(w.alloc (.cells #[.int .i64 s,.int .i64 g] 32))) rfl _ _ rfl ad6 Q1 ZV rfl sk0 (hown.ex sk0) rfl (l2:=[nth (0,0) l k]) ⟨rfl,.inr ⟨_,0,rfl,by(simp[go_sem];try omega),fun jj u hu=>by match jj,hu with|0,hu=>(simp[f2]at hu;subst hu;simp[go_sem,↓IntWalk.iteOmega];try(first|exact e0|exact e0.symm))|1,hu=>(simp[f2]at hu;subst hu;simp[go_sem,↓IntWalk.iteOmega])|jj+2,hu=>simp[f2]at hu⟩⟩ om0 dc0 ?_;intro ao'' cap'' y' hown'));go_roundw
   case rel=>exact⟨k+1,ao'',cap'',om0,by rw[hsn],by go_num,⟨y',rfl⟩,by rw[hsn,hs];exact hown'⟩
   case measure=>simp[intOf];omega
end
section
def a8E (gr:Gr) (h:Int × Int) (i k:Nat):List (Int × Int):=al6 gr h i++(((nth [] gr.ks i).take k).filter fun x=>decide (x=h)).map fun _=>((i:Int),(nth dSl gr.sl i).gen)
end
section
def Sh (T:World) (e:TypeId) (c:Nat) (w:World) (ao:Option Addr) (n:Nat):Prop:=n=0∨∃g cur,ao=some ⟨g,0,none⟩∧T.heap.size≤g∧w.heap[g]?=some (.cells cur e)∧n*c≤cur.size
structure Sp (T w w':World):Prop where
 os:w'.os=w.os
 tape:w'.tape=w.tape
 output:w'.output=w.output
 size:w.heap.size≤w'.heap.size
 blk:∀k,k<w.heap.size→w'.heap[k]?=w.heap[k]?∨(T.heap.size≤k∧∃c c' e,w.heap[k]?=some (.cells c e)∧w'.heap[k]?=some (.cells c' e)∧c'.size=c.size∧(e=86∨e=32))
section
variable {T w w1 w2:World}
end
structure ShG (T w:World) (ao:Option Addr) (n:Nat) (ko:Option Addr) (kn kcap:Nat) (hs:List RH):Prop where
 s:Sh T 86 2 w ao n
 kh:Own 88 1 fR T w ko kn kcap hs
 r:∀k,k<kn→Sh T 32 2 w (nth dRH hs k).ao (nth dRH hs k).n
 n1:n≤10000
 n2:kn≤10000
 n3:∀k,k<kn→(nth dRH hs k).n≤10000
end
end Go.Proofs.YtcekcihijdipoaaGreat
