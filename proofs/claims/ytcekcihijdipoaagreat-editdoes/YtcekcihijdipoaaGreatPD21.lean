/- A pack of texts: Nodes8, Nodes9. -/
import Derived.Test.YtcekcihijdipoaaGreatPD20
namespace Go.Proofs.YtcekcihijdipoaaGreat
set_option maxRecDepth 100000
set_option maxHeartbeats 16000000
open Go.RowKit Go.ChangeShapes Go.WideShapes Go.ChangeAt
set_option linter.unusedSimpArgs false
set_option linter.unusedVariables false
attribute [local go_sem] qn qZ A2 zg zz zA t5 qJ zf qO qD t6
section
theorem Lay.take{α:Type}{f:α→List Value}{w:World}{ao:Option Addr}{n k c:Nat}{l:List α}(h:Lay f w ao n l)(hc:∀x,(f x).length=c)(hk:k≤n):Lay f w ao k (l.take k):=by
 refine⟨by rw[List.length_take,h.len];omega,?_⟩;by_cases h0:k=0
 ·exact .inl h0
 ·obtain⟨g,off,e,hg,hcell⟩:=h.some om0;refine .inr ⟨g,off,e,hg,fun j u hu=>hcell j u ?_⟩;have hl:l.flatMap f=(l.take k).flatMap f++(l.drop k).flatMap f:=by rw[←List.flatMap_append,List.take_append_drop]
  rw[hl,List.getElem?_append_left (List.getElem?_eq_some_iff.1 hu).1];exact hu
theorem Lay.drop{α:Type}{f:α→List Value}{w:World}{g off n k c:Nat}{l:List α}(h:Lay f w (Option.some ⟨g,off,none⟩) n l)(hc:∀x,(f x).length=c)(hk:k≤n):Lay f w (Option.some ⟨g,off+k*c,none⟩) (n - k) (l.drop k):=by
 refine⟨by rw[List.length_drop,h.len],?_⟩;by_cases h0:n - k=0
 ·exact .inl h0
 ·obtain⟨_,_,e,hg,hcell⟩:=h.some om0;cases e;refine .inr ⟨g,off+k*c,rfl,hg,fun j u hu=>?_⟩;rw[Nat.add_assoc];refine hcell (k*c+j) u ?_;have hl:l.flatMap f=(l.take k).flatMap f++(l.drop k).flatMap f:=by rw[←List.flatMap_append,List.take_append_drop]
  have hlen:((l.take k).flatMap f).length=k*c:=by rw[zE hc,List.length_take,h.len,Nat.min_eq_left hk]
  rw[hl,List.getElem?_append_right om0,hlen,Nat.add_sub_cancel_left];exact hu
theorem zS.setRow{T w:World}{ao:Option Addr}{n cap kb kn kcap:Nat}{hs:List RH}{g:Gr}{k:Nat}{r:RH}{l:List (Int × Int)}(h:zS T w ao n cap (some ⟨kb,0,none⟩) kn kcap hs g)(hk:k<kn)(o:Own 32 2 f2 T w r.ao r.n r.cap l):
  zS T (w.setCell ⟨kb,k,none⟩ (.slice r.ao r.n r.cap)) ao n cap (some ⟨kb,0,none⟩) kn kcap (hs.set k r) ⟨g.sl,g.ks.set k l⟩:=by
 obtain⟨_,cur,e0,_,hb,_⟩:=h.kh.blk om0;cases e0;have hs1:=h.kh.set_self (u:=.slice r.ao r.n r.cap) k 0 r dRH hk a4O dc0 rfl;rw[Nat.mul_one,Nat.add_zero]at hs1;have hl:=h.kh.1;have hkl:=h.kl;refine⟨h.sl.set_other hb dc0,hs1,by show(hs.set k r).length=(g.ks.set k l).length;rw[List.length_set,List.length_set];exact h.len,fun j hj=>?_⟩;rw[List.length_set]at hj;show Own 32 2 f2 T _ _ _ _ (nth [] (g.ks.set k l) j);rw[qR om0,qR om0];by_cases e:j=k
 ·rw[if_pos e,if_pos e];exact o.set_other hb dc0
 ·rw[if_neg e,if_neg e];exact(h.row j hj).set_other hb dc0
def P4:Gr:=⟨[],[]⟩
def at4 (w:World) (g:Gr) (er:Int) (e:Ending) (w':World):Prop:=∃ao' cap' ko' kcap' hs',e=.returned (.tuple #[.agg #[.slice ao' g.sl.length cap',.slice ko' g.ks.length kcap'],.int .i64 er])∧(∃y,w'=plus w y)∧zS w w' ao' g.sl.length cap' ko' g.ks.length kcap' hs' g
theorem zK{T w:World}:zS T w none 0 0 none 0 0 [] P4:=⟨zd,zd,rfl,fun k hk=>by simp at hk⟩
def z9 (g:Gr) (p:Int × Int) (k:Int):Gr:=if zO g p k=0 then W6 g p k else P4
theorem av9(ao:Option Addr)(n cap:Nat)(ko:Option Addr)(kn kcap:Nat)(hs:List RH)(gr:Gr)(s g pos:Int)(w:World)(hG:QL w ao n ko kn hs gr):
  Calls Tryz.prog 115 #[.agg #[.slice ao n cap,.slice ko kn kcap],.agg #[.int .i64 s,.int .i64 g],.int .i64 pos] w fun e w'=>at4 w (z9 gr (s,g) pos) (zO gr (s,g) pos) e w':=by
 have hlen:=hG.kl;have hkh:=hG.kh.len;have hsl:=hG.sl.len;rcases ak3 gr (s,g) (s,g)with he|he|he;rotate_left
 ·have hu:zO gr (s,g) pos=8:=by rw[zO,he,if_neg dc0]
  rw[hu,show z9 gr (s,g) pos=P4 by rw[z9,hu];rfl];go_enter Tryz.func115,Tryz.ntmps115;go_wp2_with (go_at_call 157;refine pm0 (H0 he (hG.ex sk0)) fun nx=>?_);exact bodyPost_ret (v:=.tuple #[.agg #[.slice none 0 0,.slice none 0 0],.int .i64 8]) (by simp[results,Tryz.results115,go_sem,↓IntWalk.iteOmega]) rfl ⟨none,0,none,0,[],rfl,sk0,zK⟩
 ·have hu:zO gr (s,g) pos=50:=by rw[zO,he,if_neg dc0]
  rw[hu,show z9 gr (s,g) pos=P4 by rw[z9,hu];rfl];go_enter Tryz.func115,Tryz.ntmps115;go_wp2_with (go_at_call 157;refine pm0 (H0 he (hG.ex sk0)) fun nx=>?_);exact bodyPost_ret (v:=.tuple #[.agg #[.slice none 0 0,.slice none 0 0],.int .i64 50]) (by simp[results,Tryz.results115,go_sem,↓IntWalk.iteOmega]) rfl ⟨none,0,none,0,[],rfl,sk0,zK⟩
 obtain⟨hok,hh,_⟩:=a1d he;have hl:=A8 hh;simp only at hl;obtain⟨_,h2,_,_⟩:=zx hok;obtain⟨k,rfl⟩:∃k:Nat,s=(k:Int):=⟨s.toNat,om0⟩;rw[Int.toNat_natCast]at hl;have hkl:k<kn:=om0;have ik:(k:Int)<(kn:Int):=om0;obtain⟨kg,kf,rfl,hkg,hkc⟩:=hG.kh.some om0;have c1:=O9 hkh hkc hkl;have hrow:=hG.row k om0;have hrl:=hrow.len;have hn3:=hG.n3 k om0;have hn4:=hG.n4 k om0;have hra:K0 gr ((k:Int),g)=nth [] gr.ks k:=by rw[K0];show nth [] gr.ks ((k:Int)).toNat=_;rw[Int.toNat_natCast]
 have hue:zO gr ((k:Int),g) pos=if 0≤pos∧pos<((nth dRH hs k).n:Int)then 0 else 2:=by rw[zO,he,if_pos rfl,hra,hrl]
 by_cases hp0:pos<0
 ·rw[if_neg om0]at hue;rw[hue,show z9 gr ((k:Int),g) pos=P4 by rw[z9,hue];rfl];go_enter Tryz.func115,Tryz.ntmps115;go_wp2_with (go_at_call 157;refine pm0 (H0 he (hG.ex sk0)) fun nx=>?_);exact bodyPost_ret (v:=.tuple #[.agg #[.slice none 0 0,.slice none 0 0],.int .i64 2]) (by simp[results,Tryz.results115,go_sem,↓IntWalk.iteOmega]) rfl ⟨none,0,none,0,[],rfl,sk0,zK⟩
 have dp0:=decide_eq_false hp0;obtain⟨p,rfl⟩:∃p:Nat,pos=(p:Int):=⟨pos.toNat,om0⟩;by_cases hp1:(nth dRH hs k).n≤p
 ·have ip1:((nth dRH hs k).n:Int)≤(p:Int):=om0;rw[if_neg om0]at hue;rw[hue,show z9 gr ((k:Int),g) p=P4 by rw[z9,hue];rfl];go_enter Tryz.func115,Tryz.ntmps115;go_wp2_with (go_at_call 157;refine pm0 (H0 he (hG.ex sk0)) fun nx=>?_);exact bodyPost_ret (v:=.tuple #[.agg #[.slice none 0 0,.slice none 0 0],.int .i64 2]) (by simp[results,Tryz.results115,go_sem,↓IntWalk.iteOmega]) rfl ⟨none,0,none,0,[],rfl,sk0,zK⟩
 have ip1:¬((nth dRH hs k).n:Int)≤(p:Int):=om0;have dp1:=decide_eq_false ip1;rw[if_pos om0]at hue;have hres:z9 gr ((k:Int),g) p=⟨gr.sl,gr.ks.set k (cut (nth [] gr.ks k) p)⟩:=by
  rw[z9,hue,if_pos rfl,W6,hra];show Gr.mk gr.sl (gr.ks.set ((k:Int)).toNat (cut (nth [] gr.ks k) ((p:Int)).toNat))=_;rw[Int.toNat_natCast,Int.toNat_natCast]
 rw[hue,hres];go_enter Tryz.func115,Tryz.ntmps115;go_upto_region 8 with(first|(go_at_call 157;refine pm0 (H0 he (hG.ex sk0)) fun nx=>?_)|(go_at_call 35;refine(QJ _ _ _ _ _ _ hs gr _ (hG.ex sk0)).mono ?_;rintro e w1 ⟨a1,c1,ka,kc,hs1,rfl,hw1,og⟩));have hzw:=qu hw1;have og2:=(og.ex (qE (o:=(.cells #[.slice a1 n c1,.slice ka kn kc] 27)) (j5 w1))).base (T':=w) (by simp[go_sem];omega);have hx2:∃y,w1.alloc (.cells #[.slice a1 n c1,.slice ka kn kc] 27)=plus w y:=sn0;have bv:(w1.alloc (.cells #[.slice a1 n c1,.slice ka kn kc] 27)).heap[w1.heap.size]?=some (.cells #[.slice a1 n c1,.slice ka kn kc] 27):=by rw[qe,if_pos rfl]
 have bh:(w1.alloc (.cells #[.slice a1 n c1,.slice ka kn kc] 27)).heap[w.heap.size+1]?=some (.cells #[.int .i64 k,.int .i64 g] 32):=i7 (w:=((w.alloc (.cells #[.slice ao n cap,.slice (some ⟨kg,kf,none⟩) kn kcap] 27)).alloc (.cells #[.int .i64 k,.int .i64 g] 32))) sn0 (by rw[qe,if_pos (by simp)]);have br:(w1.alloc (.cells #[.slice a1 n c1,.slice ka kn kc] 27)).heap[w.heap.size+1+1]?=some (.cells #[.slice none 0 0,.slice none 0 0] 27):=i7 (w:=(((w.alloc (.cells #[.slice ao n cap,.slice (some ⟨kg,kf,none⟩) kn kcap] 27)).alloc (.cells #[.int .i64 k,.int .i64 g] 32)).alloc (.cells #[.slice none 0 0,.slice none 0 0] 27))) sn0 (by rw[qe,if_pos (by simp)]);clear og;have lv:=qi bv;generalize w1.alloc (.cells #[.slice a1 n c1,.slice ka kn kc] 27)=w2 at*;obtain⟨kb,kcur,rfl,hkb,hkbb,_⟩:=og2.kh.blk om0;have v0:=i6 (i:=0) bv rfl;have v1:=i6 (i:=1) bv rfl;have h0:=i6 (i:=0) bh rfl;have lh:=qi bh;have lr:=qi br;obtain⟨rg,ro,hrA,hrg,hrc⟩:=hrow.some om0;have hrowW:=hrow.ex hx2;have hT1:=hrowW.take Q1 (k:=p) om0;rw[hrA]at hrowW hT1;have hT2:=hrowW.drop Q1 (k:=p+1) om0;have iw1:IntKind.i64.wrap ((p:Int)+1)=(p:Int)+1:=L5 om0;have hcl:(cut (nth [] gr.ks k) p).length=p+((nth dRH hs k).n - (p+1)):=by rw[cut,List.length_append,List.length_take,List.length_drop,hrl];omega
 go_upto_region 10 with(at_builtin;refine qo (T:=w2) (l:=[]) rfl _ _ rfl ad6 Q1 ZV rfl sk0 zd rfl hT1 om0 dc0 ?_;intro na nc y1 hown1;rw[Nat.zero_add,List.nil_append]at hown1);by_cases hcp:(nth dRH hs k).cap=p+1
 ·have hT3:Lay f2 w2 (some ⟨rg,ro,none⟩) ((nth dRH hs k).n - (p+1)) ((nth [] gr.ks k).drop (p+1)):=⟨by rw[List.length_drop,hrl],.inl om0⟩;go_upto_region 11 with(at_builtin;refine qo (T:=w2) rfl _ _ rfl ad6 Q1 ZV rfl sk0 (hown1.ex sk0) rfl (hT3.ex sk0) om0 dc0 ?_;intro nb nd y2 hown2);refine zo (fun w'=>(∃y,w'=plus w y)∧zS w w' a1 n c1 (some ⟨kb,0,none⟩) kn kc hs1 gr∧w'.heap[w1.heap.size]?=some (.cells #[.slice a1 n c1,.slice (some ⟨kb,0,none⟩) kn kc] 27)∧w'.heap[w.heap.size+1]?=some (.cells #[.int .i64 k,.int .i64 g] 32)∧w'.heap[w.heap.size+1+1]?=some (.cells #[.slice none 0 0,.slice none 0 0] 27)∧Own 32 2 f2 w w' nb (p+((nth dRH hs k).n - (p+1))) nd (cut (nth [] gr.ks k) p)) ⟨ZM sk0 hx2,og2.ex sk0,i7 sk0 bv,i7 sk0 bh,i7 sk0 br,hown2.base (qu hx2)⟩ ?_;rintro w6 ⟨hx6,og6,bv6,bh6,br6,on6⟩;clear og2 bv bh br v0 v1 h0 hown1 hown2 hkbb lh lr lv;obtain⟨_,kcur6,e0,_,hkb6,_⟩:=og6.kh.blk om0;cases e0;have v1:=i6 (i:=1) bv6 rfl;have v0:=i6 (i:=0) bv6 rfl;have h0:=i6 (i:=0) bh6 rfl;obtain⟨_,_,e0,lkb,hkc6⟩:=og6.kh.lay.some om0;cases e0;have q0:=O9 og6.kh.1 hkc6 hkl;rw[Nat.zero_add]at q0;have z0:=j9 (i:=k) hkb6;have og7:=og6.setRow (k:=k) (r:=⟨nb,p+((nth dRH hs k).n - (p+1)),nd⟩) hkl on6;have nv:kb≠w1.heap.size:=by
   intro e0;rw[e0,bv6]at hkb6;cases hkb6
  have nr:kb≠w.heap.size+1+1:=by
   intro e0;rw[e0,br6]at hkb6;cases hkb6
  have bv7:(w6.setCell ⟨kb,k,none⟩ (.slice nb (p+((nth dRH hs k).n - (p+1))) nd)).heap[w1.heap.size]?=_:=(qd nv).trans bv6;have br7:(w6.setCell ⟨kb,k,none⟩ (.slice nb (p+((nth dRH hs k).n - (p+1))) nd)).heap[w.heap.size+1+1]?=_:=(qd nr).trans br6;have hx7:∃y,w6.setCell ⟨kb,k,none⟩ (.slice nb (p+((nth dRH hs k).n - (p+1))) nd)=plus w y:=qb hx6 hkb;go_upto_region 12 with fail;refine zo (fun w'=>w'=w6.setCell ⟨kb,k,none⟩ (.slice nb (p+((nth dRH hs k).n - (p+1))) nd)) rfl ?_;rintro w7 e7;rw[←e7]at og7 bv7 br7 hx7;clear e7 og6 bv6 bh6 br6 on6 hkb6 v0 v1 h0 q0 z0 hkc6;have v0:=i6 (i:=0) bv7 rfl;have v1:=i6 (i:=1) bv7 rfl;have r0:=i6 (i:=0) br7 rfl;have r1:=i6 (i:=1) br7 rfl;have y0:=j9 (i:=0) br7;have y1:=j9 (i:=1) br7;have og8:=(og7.set_other (i:=0) (u:=.slice a1 n c1) br7 dc0 dc0 dc0).set_other (i:=1) (u:=.slice (some ⟨kb,0,none⟩) kn kc) (j7 br7) dc0 dc0 dc0;have br8:=j7 (i:=1) (u:=.slice (some ⟨kb,0,none⟩) kn kc) (j7 (i:=0) (u:=.slice a1 n c1) br7);have hx8:=qb (i:=1) (u:=.slice (some ⟨kb,0,none⟩) kn kc) (g:=w.heap.size+1+1) (qb (i:=0) (u:=.slice a1 n c1) (g:=w.heap.size+1+1) hx7 om0) om0;go_wp2;generalize (w7.setCell ⟨w.heap.size+1+1,0,none⟩ (.slice a1 n c1)).setCell ⟨w.heap.size+1+1,1,none⟩ (.slice (some ⟨kb,0,none⟩) kn kc)=w9 at*;have f0:=i6 (i:=0) br8 rfl;have f1:=i6 (i:=1) br8 rfl;have hpost:at4 w ⟨gr.sl,gr.ks.set k (cut (nth [] gr.ks k) p)⟩ 0 (.returned (.tuple #[.agg #[.slice a1 n c1,.slice (some ⟨kb,0,none⟩) kn kc],.int .i64 0])) w9:=by
   have e2:(Gr.mk gr.sl (gr.ks.set k (cut (nth [] gr.ks k) p))).ks.length=kn:=by show(gr.ks.set k _).length=kn;rw[List.length_set];exact hlen
   have e1:(Gr.mk gr.sl (gr.ks.set k (cut (nth [] gr.ks k) p))).sl.length=n:=hsl;refine⟨a1,c1,some ⟨kb,0,none⟩,kc,hs1.set k ⟨nb,p+((nth dRH hs k).n - (p+1)),nd⟩,?_,hx8,?_⟩
   ·rw[e1,e2]
   ·rw[e1,e2];exact og8
  exact bodyPost_ret (v:=.tuple #[.agg #[.slice a1 n c1,.slice (some ⟨kb,0,none⟩) kn kc],.int .i64 0]) (by simp[results,Tryz.results115,go_sem,f0,f1]) rfl hpost
 ·skip
  go_upto_region 11 with(at_builtin;refine qo (T:=w2) rfl _ _ rfl ad6 Q1 ZV rfl sk0 (hown1.ex sk0) rfl (hT2.ex sk0) om0 dc0 ?_;intro nb nd y2 hown2);refine zo (fun w'=>(∃y,w'=plus w y)∧zS w w' a1 n c1 (some ⟨kb,0,none⟩) kn kc hs1 gr∧w'.heap[w1.heap.size]?=some (.cells #[.slice a1 n c1,.slice (some ⟨kb,0,none⟩) kn kc] 27)∧w'.heap[w.heap.size+1]?=some (.cells #[.int .i64 k,.int .i64 g] 32)∧w'.heap[w.heap.size+1+1]?=some (.cells #[.slice none 0 0,.slice none 0 0] 27)∧Own 32 2 f2 w w' nb (p+((nth dRH hs k).n - (p+1))) nd (cut (nth [] gr.ks k) p)) ⟨ZM sk0 hx2,og2.ex sk0,i7 sk0 bv,i7 sk0 bh,i7 sk0 br,hown2.base (qu hx2)⟩ ?_;rintro w6 ⟨hx6,og6,bv6,bh6,br6,on6⟩;clear og2 bv bh br v0 v1 h0 hown1 hown2 hkbb lh lr lv;obtain⟨_,kcur6,e0,_,hkb6,_⟩:=og6.kh.blk om0;cases e0;have v1:=i6 (i:=1) bv6 rfl;have v0:=i6 (i:=0) bv6 rfl;have h0:=i6 (i:=0) bh6 rfl;obtain⟨_,_,e0,lkb,hkc6⟩:=og6.kh.lay.some om0;cases e0;have q0:=O9 og6.kh.1 hkc6 hkl;rw[Nat.zero_add]at q0;have z0:=j9 (i:=k) hkb6;have og7:=og6.setRow (k:=k) (r:=⟨nb,p+((nth dRH hs k).n - (p+1)),nd⟩) hkl on6;have nv:kb≠w1.heap.size:=by
   intro e0;rw[e0,bv6]at hkb6;cases hkb6
  have nr:kb≠w.heap.size+1+1:=by
   intro e0;rw[e0,br6]at hkb6;cases hkb6
  have bv7:(w6.setCell ⟨kb,k,none⟩ (.slice nb (p+((nth dRH hs k).n - (p+1))) nd)).heap[w1.heap.size]?=_:=(qd nv).trans bv6;have br7:(w6.setCell ⟨kb,k,none⟩ (.slice nb (p+((nth dRH hs k).n - (p+1))) nd)).heap[w.heap.size+1+1]?=_:=(qd nr).trans br6;have hx7:∃y,w6.setCell ⟨kb,k,none⟩ (.slice nb (p+((nth dRH hs k).n - (p+1))) nd)=plus w y:=qb hx6 hkb;go_upto_region 12 with fail;refine zo (fun w'=>w'=w6.setCell ⟨kb,k,none⟩ (.slice nb (p+((nth dRH hs k).n - (p+1))) nd)) rfl ?_;rintro w7 e7;rw[←e7]at og7 bv7 br7 hx7;clear e7 og6 bv6 bh6 br6 on6 hkb6 v0 v1 h0 q0 z0 hkc6;have v0:=i6 (i:=0) bv7 rfl;have v1:=i6 (i:=1) bv7 rfl;have r0:=i6 (i:=0) br7 rfl;have r1:=i6 (i:=1) br7 rfl;have y0:=j9 (i:=0) br7;have y1:=j9 (i:=1) br7;have og8:=(og7.set_other (i:=0) (u:=.slice a1 n c1) br7 dc0 dc0 dc0).set_other (i:=1) (u:=.slice (some ⟨kb,0,none⟩) kn kc) (j7 br7) dc0 dc0 dc0;have br8:=j7 (i:=1) (u:=.slice (some ⟨kb,0,none⟩) kn kc) (j7 (i:=0) (u:=.slice a1 n c1) br7);have hx8:=qb (i:=1) (u:=.slice (some ⟨kb,0,none⟩) kn kc) (g:=w.heap.size+1+1) (qb (i:=0) (u:=.slice a1 n c1) (g:=w.heap.size+1+1) hx7 om0) om0;go_wp2;generalize (w7.setCell ⟨w.heap.size+1+1,0,none⟩ (.slice a1 n c1)).setCell ⟨w.heap.size+1+1,1,none⟩ (.slice (some ⟨kb,0,none⟩) kn kc)=w9 at*;have f0:=i6 (i:=0) br8 rfl;have f1:=i6 (i:=1) br8 rfl;have hpost:at4 w ⟨gr.sl,gr.ks.set k (cut (nth [] gr.ks k) p)⟩ 0 (.returned (.tuple #[.agg #[.slice a1 n c1,.slice (some ⟨kb,0,none⟩) kn kc],.int .i64 0])) w9:=by
   have e2:(Gr.mk gr.sl (gr.ks.set k (cut (nth [] gr.ks k) p))).ks.length=kn:=by show(gr.ks.set k _).length=kn;rw[List.length_set];exact hlen
   have e1:(Gr.mk gr.sl (gr.ks.set k (cut (nth [] gr.ks k) p))).sl.length=n:=hsl;refine⟨a1,c1,some ⟨kb,0,none⟩,kc,hs1.set k ⟨nb,p+((nth dRH hs k).n - (p+1)),nd⟩,?_,hx8,?_⟩
   ·rw[e1,e2]
   ·rw[e1,e2];exact og8
  exact bodyPost_ret (v:=.tuple #[.agg #[.slice a1 n c1,.slice (some ⟨kb,0,none⟩) kn kc],.int .i64 0]) (by simp[results,Tryz.results115,go_sem,f0,f1]) rfl hpost
end
section
def Q3 (g:Gr):Gr:=if B4 g=0 then H5 g else P4
def ah3 (g:Gr):Int:=if B4 g=0 then zb g.sl else 0
def ah8 (g:Gr):Int:=if B4 g=0 then zQ g.sl else 0
def a3l (w:World) (g:Gr) (s h er:Int) (e:Ending) (w':World):Prop:=∃ao' cap' ko' kcap' hs',e=.returned (.tuple #[.agg #[.slice ao' g.sl.length cap',.slice ko' g.ks.length kcap'],.agg #[.int .i64 s,.int .i64 h],.int .i64 er])∧(∃y,w'=plus w y)∧zS w w' ao' g.sl.length cap' ko' g.ks.length kcap' hs' g
theorem Z5{w w':World}{g:Nat}{o:Obj}(e:w'=w)(h:w.heap[g]?=some o):w'.heap[g]?=some o:=e▸h
theorem Qs{b1 b2:Nat}{o1 o2:Obj}{w:World}{i j:Nat}{u v:Value}(hne:b1≠b2)(h:((w.setCell ⟨b1,i,none⟩ u).setCell ⟨b1,j,none⟩ v).heap[b1]?=some o1):Two b1 o1 b2 o2 w ((w.setCell ⟨b1,i,none⟩ u).setCell ⟨b1,j,none⟩ v):=
 ⟨rfl,rfl,rfl,by rw[B9,B9];exact Nat.le_refl _,fun k _ n1 _=>(qd (fun e=>n1 e.symm)).trans (qd (fun e=>n1 e.symm)),.inr h,.inl ((qd hne).trans (qd hne))⟩
theorem Own.two_same{α:Type}{f:α→List Value}{b1 b2:Nat}{o1 o2:Obj}{w w1 T:World}{ao:Option Addr}{n cap c:Nat}{l:List α}{e e1:TypeId}{c1:Array Value}(h:Own e c f T w ao n cap l)(ht:Two b1 o1 b2 o2 w w1)(h1:w.heap[b1]?=some (.cells c1 e1))(n1:e1≠e)(hb:b2<T.heap.size):Own e c f T w1 ao n cap l:=by
 refine⟨h.1,h.2.1,h.2.2.imp id ?_⟩;rintro⟨q,cp,cu,a1,a2,a3,a4⟩;refine⟨q,cp,cu,a1,a2,?_,a4⟩;rw[ht.rest q (qi a3) ?_ om0]
 ·exact a3
 ·intro e0;rw[e0,h1]at a3;cases a3;exact n1 rfl
def a9s (i:Nat):List Nat:=match i with|0=>[42]|1=>[43]|4=>[4]|_=>[]
def au9 (xv hv:Value) (b1:Nat) (o1:Obj) (b2:Nat) (o2:Obj) (i:Nat) (t:Nat→Value) (w':World):Prop:=match i with
 |0=>t 42=xv
 |1=>t 43=hv
 |2=>w'.heap[b1]?=some o1
 |3=>w'.heap[b2]?=some o2
 |4=>t 4=.int .i64 0
 |_=>True
theorem a1j(xv hv:Value)(b1:Nat)(o1:Obj)(b2:Nat)(o2:Obj):∀i t t' w w',au9 xv hv b1 o1 b2 o2 i t w→(∀s∈a9s i,t' s=t s)→Two b1 o1 b2 o2 w w'→au9 xv hv b1 o1 b2 o2 i t' w':=by
 intro i t t' w w' h hs' ht
 match i with
 |0=>exact(hs' 42 dc0).trans h
 |1=>exact(hs' 43 dc0).trans h
 |2=>exact(QT ht h).elim id id
 |3=>exact(QI ht h).elim id id
 |4=>exact(hs' 4 dc0).trans h
 |i+5=>trivial
theorem a2k(ao:Option Addr)(n cap:Nat)(ko:Option Addr)(kn kcap:Nat)(hs:List RH)(gr:Gr)(w:World)(hG:QL w ao n ko kn hs gr):
  Calls Tryz.prog 155 #[.agg #[.slice ao n cap,.slice ko kn kcap]] w fun e w'=>a3l w (Q3 gr) (ah3 gr) (ah8 gr) (B4 gr) e w':=by
 have hlen:=hG.kl;have hkh:=hG.kh.len;have hsl:=hG.sl.len;have m1:=hG.n1;have m2:=hG.n2;cases hO:QV gr
 ·have he:B4 gr=8:=by rw[B4,hO];rfl
  rw[Q3,ah3,ah8,he];go_enter Tryz.func155,Tryz.ntmps155;go_wp2_with (go_at_call 88;refine pm0 (G1 _ _ _ _ _ _ hs gr _ (hG.ex sk0)) fun nx=>?_;rw[hO]);exact bodyPost_ret (v:=.tuple #[.agg #[.slice none 0 0,.slice none 0 0],.agg #[.int .i64 0,.int .i64 0],.int .i64 8]) (by simp[results,Tryz.results155,go_sem,↓IntWalk.iteOmega]) rfl ⟨none,0,none,0,[],rfl,sk0,zK⟩
 by_cases he:H7 gr.sl=0;rotate_left
 ·have he2:B4 gr=H7 gr.sl:=by rw[B4,hO];rfl
  have he9:H7 gr.sl=9:=by
   have ho:=(zx hO).1;unfold H7 at he ⊢;rw[if_pos ho]at he ⊢;split at he
   ·exact absurd rfl he
   ·rename_i h1;rw[if_neg h1];split at he
    ·rename_i h2;rw[if_pos h2]
    ·exact absurd rfl he
  rw[he9]at he2;rw[Q3,ah3,ah8,he2];go_enter Tryz.func155,Tryz.ntmps155;go_wp2_with (first|(go_at_call 88;refine pm0 (G1 _ _ _ _ _ _ hs gr _ (hG.ex sk0)) fun nx=>?_;rw[hO])|(go_at_call 176;refine(ap2 _ _ _ gr.sl _ (hG.sl.ex sk0) om0).mono ?_;rw[he9];rintro e wm ⟨xa,xc,rfl,⟨ym,rfl⟩,om⟩));exact bodyPost_ret (v:=.tuple #[.agg #[.slice none 0 0,.slice none 0 0],.agg #[.int .i64 0,.int .i64 0],.int .i64 9]) (by simp[results,Tryz.results155,go_sem,↓IntWalk.iteOmega]) rfl ⟨none,0,none,0,[],rfl,sk0,zK⟩
 have he2:B4 gr=0:=by rw[B4,hO];exact he
 rw[Q3,ah3,ah8,he2,if_pos rfl,if_pos rfl,if_pos rfl];have hR:U2 gr.sl=qP gr.sl:=by rw[U2,if_pos he]
 have hS:mkS gr.sl=zb gr.sl:=by rw[mkS,if_pos he]
 have hGn:mkG gr.sl=zQ gr.sl:=by rw[mkG,if_pos he]
 have hmb:(qP gr.sl).length≤n+1:=by rw[Qc];split<;>omega
 go_enter Tryz.func155,Tryz.ntmps155;go_upto_region 6 with(first|(go_at_call 88;refine pm0 (G1 _ _ _ _ _ _ hs gr _ (hG.ex sk0)) fun nx=>?_;rw[hO])|(go_at_call 176;refine(ap2 _ _ _ gr.sl _ (hG.sl.ex sk0) om0).mono ?_;rw[he,hR,hS,hGn];rintro e wm ⟨xa,xc,rfl,hwm,om⟩));have zm:w.heap.size+1+1+1≤wm.heap.size:=by
  have:=qu hwm;simp[go_sem]at this;omega
 have hTw:∃y,(wm.alloc (.cells #[.slice xa (qP gr.sl).length xc] 24)).alloc (.cells #[.int .i64 (zb gr.sl),.int .i64 (zQ gr.sl)] 32)=plus w y:=sn0;have bA0:((wm.alloc (.cells #[.slice xa (qP gr.sl).length xc] 24)).alloc (.cells #[.int .i64 (zb gr.sl),.int .i64 (zQ gr.sl)] 32)).heap[wm.heap.size]?=some (.cells #[.slice xa (qP gr.sl).length xc] 24):=by rw[qe,if_neg (by simp),qe,if_pos rfl]
 have bH0:((wm.alloc (.cells #[.slice xa (qP gr.sl).length xc] 24)).alloc (.cells #[.int .i64 (zb gr.sl),.int .i64 (zQ gr.sl)] 32)).heap[wm.heap.size+1]?=some (.cells #[.int .i64 (zb gr.sl),.int .i64 (zQ gr.sl)] 32):=by rw[qe,if_pos (by simp)]
 have bG0:((wm.alloc (.cells #[.slice xa (qP gr.sl).length xc] 24)).alloc (.cells #[.int .i64 (zb gr.sl),.int .i64 (zQ gr.sl)] 32)).heap[w.heap.size]?=some (.cells #[.slice ao n cap,.slice ko kn kcap] 27):=i7 (w:=(w.alloc (.cells #[.slice ao n cap,.slice ko kn kcap] 27))) sn0 (by rw[qe,if_pos rfl]);have b10:((wm.alloc (.cells #[.slice xa (qP gr.sl).length xc] 24)).alloc (.cells #[.int .i64 (zb gr.sl),.int .i64 (zQ gr.sl)] 32)).heap[w.heap.size+1]?=some (.cells #[.slice none 0 0,.slice none 0 0] 27):=i7 (w:=(w.alloc (.cells #[.slice ao n cap,.slice ko kn kcap] 27)).alloc (.cells #[.slice none 0 0,.slice none 0 0] 27)) sn0 (by rw[qe,if_pos (by simp)]);have b20:((wm.alloc (.cells #[.slice xa (qP gr.sl).length xc] 24)).alloc (.cells #[.int .i64 (zb gr.sl),.int .i64 (zQ gr.sl)] 32)).heap[w.heap.size+1+1]?=some (.cells #[.int .i64 0,.int .i64 0] 32):=i7 (w:=((w.alloc (.cells #[.slice ao n cap,.slice ko kn kcap] 27)).alloc (.cells #[.slice none 0 0,.slice none 0 0] 27)).alloc (.cells #[.int .i64 0,.int .i64 0] 32)) sn0 (by rw[qe,if_pos (by simp)]);have ox0:=(om.ex (qE (o:=(.cells #[.int .i64 (zb gr.sl),.int .i64 (zQ gr.sl)] 32)) (qE (o:=(.cells #[.slice xa (qP gr.sl).length xc] 24)) (j5 wm)))).base (T':=w) (by simp[go_sem];omega);clear om;generalize (wm.alloc (.cells #[.slice xa (qP gr.sl).length xc] 24)).alloc (.cells #[.int .i64 (zb gr.sl),.int .i64 (zQ gr.sl)] 32)=Tw at*;have l20:=qi b20;have lA0:=qi bA0;have lH0:=qi bH0;have g0:=i6 (i:=0) bG0 rfl;have g1:=i6 (i:=1) bG0 rfl;go_upto_region 7 with(go_at_call 35;refine(QJ _ _ _ _ _ _ hs gr _ (hG.ex hTw)).mono ?_;rintro e w1 ⟨a1,c1,ka,kc,hs1,rfl,hw1,og⟩);have bA:=i7 (qE (o:=(.cells #[.slice a1 n c1,.slice ka kn kc] 27)) (j5 w1)) (i7 hw1 bA0);have bH:=i7 (qE (o:=(.cells #[.slice a1 n c1,.slice ka kn kc] 27)) (j5 w1)) (i7 hw1 bH0);have b1:=i7 (qE (o:=(.cells #[.slice a1 n c1,.slice ka kn kc] 27)) (j5 w1)) (i7 hw1 b10);have b2:=i7 (qE (o:=(.cells #[.slice a1 n c1,.slice ka kn kc] 27)) (j5 w1)) (i7 hw1 b20);have bv:(w1.alloc (.cells #[.slice a1 n c1,.slice ka kn kc] 27)).heap[w1.heap.size]?=some (.cells #[.slice a1 n c1,.slice ka kn kc] 27):=by rw[qe,if_pos rfl]
 have ox:=ox0.ex (i9 hw1 (qE (o:=(.cells #[.slice a1 n c1,.slice ka kn kc] 27)) (j5 w1)));have kh:=(og.kh.ex (qE (o:=(.cells #[.slice a1 n c1,.slice ka kn kc] 27)) (j5 w1))).base (T':=w) (qu hTw);have rows:∀j,j<hs1.length→Own 32 2 f2 Tw (w1.alloc (.cells #[.slice a1 n c1,.slice ka kn kc] 27)) (nth dRH hs1 j).ao (nth dRH hs1 j).n (nth dRH hs1 j).cap (nth [] gr.ks j):=fun j hj=>(og.row j hj).ex (qE (o:=(.cells #[.slice a1 n c1,.slice ka kn kc] 27)) (j5 w1))
 have hx2:∃y,w1.alloc (.cells #[.slice a1 n c1,.slice ka kn kc] 27)=plus w y:=sn0;have hl1:=og.len;have z1:=qu hw1;clear og ox0;generalize w1.alloc (.cells #[.slice a1 n c1,.slice ka kn kc] 27)=w2 at*;have a0:=i6 (i:=0) bA rfl;have v0:=i6 (i:=0) bv rfl;have y0:=j9 (i:=0) bv;have lv:=qi bv;go_upto_region 8 with fail;refine zo (fun w'=>w'=w2.setCell ⟨w1.heap.size,0,none⟩ (.slice xa (qP gr.sl).length xc)) rfl ?_;rintro w3 e3;have bA3:=Z5 e3 ((qd om0).trans bA);have bH3:=Z5 e3 ((qd om0).trans bH);have b13:=Z5 e3 ((qd om0).trans b1);have b23:=Z5 e3 ((qd om0).trans b2);have bv3:w3.heap[w1.heap.size]?=some (.cells #[.slice xa (qP gr.sl).length xc,.slice ka kn kc] 27):=by rw[e3];exact j7 bv
 have ox3:=ox.set_other (i:=0) (u:=.slice xa (qP gr.sl).length xc) bv dc0;have kh3:=kh.set_other (i:=0) (u:=.slice xa (qP gr.sl).length xc) bv dc0;have rows3:∀j,j<hs1.length→Own 32 2 f2 Tw w3 (nth dRH hs1 j).ao (nth dRH hs1 j).n (nth dRH hs1 j).cap (nth [] gr.ks j):=fun j hj=>by rw[e3];exact(rows j hj).set_other bv dc0
 have hx3:∃y,w3=plus w y:=by rw[e3];exact qb hx2 (by have:=qu hTw;omega)
 rw[←e3]at ox3 kh3;clear e3 ox kh rows bA bH b1 b2 bv a0 v0 y0 hx2 bA0 bH0 bG0 b10 b20 g0 g1;have a0:=i6 (i:=0) bA3 rfl;have v1:=i6 (i:=1) bv3 rfl;have y1:=j9 (i:=1) bv3;have lv3:=qi bv3;have lA3:=qi bA3;have hk1:=kh3.1;by_cases hlt:kn<(qP gr.sl).length
 ·have ilt:(kn:Int)<((qP gr.sl).length:Int):=om0;go_upto_region 10 with(at_builtin;refine qW (T:=w) rfl _ _ rfl a8Z a4O a9k rfl (ZM sk0 hx3) (kh3.ex sk0) rfl (l2:=[dRH]) ⟨rfl,.inr ⟨_,0,rfl,by(simp[go_sem];try omega),fun jj u hu=>by match jj,hu with|0,hu=>(simp[fR,dRH]at hu;subst hu;simp[go_sem,↓IntWalk.iteOmega])|jj+1,hu=>simp[fR]at hu⟩⟩ om0 dc0 ?_;intro kb kd w4 ok4 hx4 hgr4;have bv4:=t8 hgr4 (kh3.ex sk0) (i7 (w':=w3.alloc (.cells #[.slice none 0 0] 88)) sk0 bv3) dc0;have v14:=i6 (i:=1) bv4 rfl;have y14:=j9 (i:=1) bv4;have lv4:=qi bv4);have bA5:=t8 hgr4 (kh3.ex sk0) (i7 (w':=w3.alloc (.cells #[.slice none 0 0] 88)) sk0 bA3) dc0;have bH5:=t8 hgr4 (kh3.ex sk0) (i7 (w':=w3.alloc (.cells #[.slice none 0 0] 88)) sk0 bH3) dc0;have b15:=t8 hgr4 (kh3.ex sk0) (i7 (w':=w3.alloc (.cells #[.slice none 0 0] 88)) sk0 b13) dc0;have b25:=t8 hgr4 (kh3.ex sk0) (i7 (w':=w3.alloc (.cells #[.slice none 0 0] 88)) sk0 b23) dc0;have ox5:=(zj hgr4 (kh3.ex sk0) (ox3.ex (w':=w3.alloc (.cells #[.slice none 0 0] 88)) sk0) dc0).set_other (i:=1) (u:=.slice kb (kn+1) kd) bv4 dc0;have kh5:=ok4.set_other (i:=1) (u:=.slice kb (kn+1) kd) bv4 dc0;refine zo (fun w'=>w'=w4.setCell ⟨w1.heap.size,1,none⟩ (.slice kb (kn+1) kd)) rfl ?_;rintro w5 e5;have bH6:=Z5 e5 ((qd om0).trans bH5);have b16:=Z5 e5 ((qd om0).trans b15);have b26:=Z5 e5 ((qd om0).trans b25);have bv6:w5.heap[w1.heap.size]?=some (.cells #[.slice xa (qP gr.sl).length xc,.slice kb (kn+1) kd] 27):=by rw[e5];exact j7 bv4
  have hx6:∃y,w5=plus w y:=by rw[e5];exact qb hx4 (by have:=qu hTw;omega)
  have rows6:∀j,j<(hs1++[dRH]).length→Own 32 2 f2 Tw w5 (nth dRH (hs1++[dRH]) j).ao (nth dRH (hs1++[dRH]) j).n (nth dRH (hs1++[dRH]) j).cap (nth [] (H5 gr).ks j):=fun j hj=>by
   rw[QQ,e5];by_cases hjl:j<hs1.length
   ·rw[zB hjl];exact(zj hgr4 (kh3.ex sk0) ((rows3 j hjl).ex (w':=w3.alloc (.cells #[.slice none 0 0] 88)) sk0) dc0).set_other bv4 dc0
   ·rw[List.length_append]at hj;simp only[List.length_cons,List.length_nil]at hj;rw[zG om0,show j - hs1.length=0 by omega,Q5 (l:=gr.ks) om0];exact zd
  have hMk:(H5 gr).ks.length=kn+1:=by
   show(if gr.ks.length<(qP gr.sl).length then gr.ks++[[]]else gr.ks).length=_;rw[if_pos om0,List.length_append,hlen];rfl
  have hMl:(hs1++[dRH]).length=(H5 gr).ks.length:=by rw[hMk,List.length_append,hk1];rfl
  rw[←e5]at ox5 kh5;clear e5 ox3 kh3 rows3 bA5 bH5 b15 b25 bv4 hgr4 ok4 hx4 a0 v1 y1 bA3 bH3 b13 b23 bv3 hx3 lA3 lv3;have f0:=i6 (i:=0) bv6 rfl;have f1:=i6 (i:=1) bv6 rfl;have f2':=i6 (i:=0) bH6 rfl;have f3':=i6 (i:=1) bH6 rfl;have nb:w.heap.size+1≠w.heap.size+1+1:=om0;have zT:=qu hTw;refine M5 5 a9s (au9 (.agg #[.slice xa (qP gr.sl).length xc,.slice kb (kn+1) kd]) (.agg #[.int .i64 (zb gr.sl),.int .i64 (zQ gr.sl)]) (w.heap.size+1) (.cells #[.slice xa (qP gr.sl).length xc,.slice kb (kn+1) kd] 27) (w.heap.size+1+1) (.cells #[.int .i64 (zb gr.sl),.int .i64 (zQ gr.sl)] 32)) (Two (w.heap.size+1) (.cells #[.slice xa (qP gr.sl).length xc,.slice kb (kn+1) kd] 27) (w.heap.size+1+1) (.cells #[.int .i64 (zb gr.sl),.int .i64 (zQ gr.sl)] 32)) R0 (V5 _) kr0 kr0 dc0 (a1j _ _ _ _ _ _) ?steps ?fin
  case steps=>
   refine⟨?_,?_,?_,?_,?_,trivial⟩<;>intro a w' hg hfree hdeep
   ·have f8':=hfree 8 kr0;have e0:=A1 hg f0 om0 om0;have e1:=A1 hg f1 om0 om0;simp only[au9,got]at f8';simp[go_sem]at f8';unfold Oper.wp;simp[go_sem,execOp,Act.eval,↓IntWalk.iteOmega,f8',e0,e1];exact⟨_,rfl,zL _,by simp[au9,upd]⟩
   ·have f6':=hfree 6 kr0;have e0:=A1 hg f2' om0 om0;have e1:=A1 hg f3' om0 om0;simp only[au9,got]at f6';simp[go_sem]at f6';unfold Oper.wp;simp[go_sem,execOp,Act.eval,↓IntWalk.iteOmega,f6',e0,e1];exact⟨_,rfl,zL _,by simp[au9,upd]⟩
   ·have f2:=hfree 2 kr0;have d0:=hdeep 0 kr0;simp only[au9,got]at f2 d0;simp[go_sem]at f2;rcases QT hg b16 with hb|hb
    ·have c0':=i6 (i:=0) hb rfl;have z0':=j9 (i:=0) hb;have c1':=i6 (i:=1) hb rfl;have z1':=j9 (i:=1) hb;unfold Oper.wp;simp[go_sem,execOp,Act.eval,f2,d0,c0',z0',c1',z1'];exact⟨Qs nb (j7 (j7 hb)),undef,j7 (j7 hb)⟩
    ·have c0':=i6 (i:=0) hb rfl;have z0':=j9 (i:=0) hb;have c1':=i6 (i:=1) hb rfl;have z1':=j9 (i:=1) hb;unfold Oper.wp;simp[go_sem,execOp,Act.eval,f2,d0,c0',z0',c1',z1'];exact⟨Qs nb (j7 (j7 hb)),undef,j7 (j7 hb)⟩
   ·have f3:=hfree 3 kr0;have d1:=hdeep 1 kr0;simp only[au9,got]at f3 d1;simp[go_sem]at f3;rcases QI hg b26 with hb|hb
    ·have c0':=i6 (i:=0) hb rfl;have z0':=j9 (i:=0) hb;have c1':=i6 (i:=1) hb rfl;have z1':=j9 (i:=1) hb;unfold Oper.wp;simp[go_sem,execOp,Act.eval,f3,d1,c0',z0',c1',z1'];exact⟨J0 nb (j7 (j7 hb)),undef,j7 (j7 hb)⟩
    ·have c0':=i6 (i:=0) hb rfl;have z0':=j9 (i:=0) hb;have c1':=i6 (i:=1) hb rfl;have z1':=j9 (i:=1) hb;unfold Oper.wp;simp[go_sem,execOp,Act.eval,f3,d1,c0',z0',c1',z1'];exact⟨J0 nb (j7 (j7 hb)),undef,j7 (j7 hb)⟩
   ·unfold Oper.wp;simp[go_sem,execOp,Act.eval,↓IntWalk.iteOmega];exact⟨_,rfl,zL _,by simp[au9,upd]⟩
  case fin=>
   rintro t w9 hg hΦ;have h9:=hΦ 2 dc0;have h10:=hΦ 3 dc0;have h11:=hΦ 4 dc0;simp only[au9]at h9 h10 h11;have ox9:=ox5.two hg b16 b26 dc0 dc0;have kh9:=kh5.two hg b16 b26 dc0 dc0;have rows9:∀j,j<(hs1++[dRH]).length→Own 32 2 f2 w w9 (nth dRH (hs1++[dRH]) j).ao (nth dRH (hs1++[dRH]) j).n (nth dRH (hs1++[dRH]) j).cap (nth [] (H5 gr).ks j):=fun j hj=>((rows6 j hj).two_same hg b16 dc0 l20).base zT
   have hx9:=al7 hg hx6 om0 om0;simp only[zh,List.take_succ_cons,List.take_zero,List.take_nil,Act.put];simp only[List.setIfInBounds_toArray,List.set_cons_succ,List.set_cons_zero,h11];simp only[List.drop_succ_cons,List.drop_zero];have k0:=i6 (i:=0) h9 rfl;have k1:=i6 (i:=1) h9 rfl;have k2:=i6 (i:=0) h10 rfl;have k3:=i6 (i:=1) h10 rfl;clear hΦ hg f0 f1 f2' f3' rows6 ox5 kh5 bH6 b16 b26 bv6 hx6;go_wp2;have hpost:a3l w (H5 gr) (zb gr.sl) (zQ gr.sl) 0 (.returned (.tuple #[.agg #[.slice xa (qP gr.sl).length xc,.slice kb (kn+1) kd],.agg #[.int .i64 (zb gr.sl),.int .i64 (zQ gr.sl)],.int .i64 0])) w9:=by
    refine⟨xa,xc,kb,kd,(hs1++[dRH]),?_,hx9,?_⟩
    ·rw[hMk];rfl
    ·rw[hMk];exact⟨ox9,kh9,hMl,rows9⟩
   exact bodyPost_ret (v:=.tuple #[.agg #[.slice xa (qP gr.sl).length xc,.slice kb (kn+1) kd],.agg #[.int .i64 (zb gr.sl),.int .i64 (zQ gr.sl)],.int .i64 0]) (by simp[results,Tryz.results155,go_sem,k0,k1,k2,k3]) rfl hpost
 ·have ilt:¬(kn:Int)<((qP gr.sl).length:Int):=om0;have hMk:(H5 gr).ks.length=kn:=by
   show(if gr.ks.length<(qP gr.sl).length then gr.ks++[[]]else gr.ks).length=_;rw[if_neg om0,hlen]
  have hMl:hs1.length=(H5 gr).ks.length:=by rw[hMk,hk1]
  go_upto_region 10 with fail;have rows6:∀j,j<hs1.length→Own 32 2 f2 Tw w3 (nth dRH hs1 j).ao (nth dRH hs1 j).n (nth dRH hs1 j).cap (nth [] (H5 gr).ks j):=fun j hj=>by rw[QQ];exact rows3 j hj
  clear rows3 a0 v1 y1;have f0:=i6 (i:=0) bv3 rfl;have f1:=i6 (i:=1) bv3 rfl;have f2':=i6 (i:=0) bH3 rfl;have f3':=i6 (i:=1) bH3 rfl;have nb:w.heap.size+1≠w.heap.size+1+1:=om0;have zT:=qu hTw;refine M5 5 a9s (au9 (.agg #[.slice xa (qP gr.sl).length xc,.slice ka kn kc]) (.agg #[.int .i64 (zb gr.sl),.int .i64 (zQ gr.sl)]) (w.heap.size+1) (.cells #[.slice xa (qP gr.sl).length xc,.slice ka kn kc] 27) (w.heap.size+1+1) (.cells #[.int .i64 (zb gr.sl),.int .i64 (zQ gr.sl)] 32)) (Two (w.heap.size+1) (.cells #[.slice xa (qP gr.sl).length xc,.slice ka kn kc] 27) (w.heap.size+1+1) (.cells #[.int .i64 (zb gr.sl),.int .i64 (zQ gr.sl)] 32)) R0 (V5 _) kr0 kr0 dc0 (a1j _ _ _ _ _ _) ?steps ?fin
  case steps=>
   refine⟨?_,?_,?_,?_,?_,trivial⟩<;>intro a w' hg hfree hdeep
   ·have f8':=hfree 8 kr0;have e0:=A1 hg f0 om0 om0;have e1:=A1 hg f1 om0 om0;simp only[au9,got]at f8';simp[go_sem]at f8';unfold Oper.wp;simp[go_sem,execOp,Act.eval,↓IntWalk.iteOmega,f8',e0,e1];exact⟨_,rfl,zL _,by simp[au9,upd]⟩
   ·have f6':=hfree 6 kr0;have e0:=A1 hg f2' om0 om0;have e1:=A1 hg f3' om0 om0;simp only[au9,got]at f6';simp[go_sem]at f6';unfold Oper.wp;simp[go_sem,execOp,Act.eval,↓IntWalk.iteOmega,f6',e0,e1];exact⟨_,rfl,zL _,by simp[au9,upd]⟩
   ·have f2:=hfree 2 kr0;have d0:=hdeep 0 kr0;simp only[au9,got]at f2 d0;simp[go_sem]at f2;rcases QT hg b13 with hb|hb
    ·have c0':=i6 (i:=0) hb rfl;have z0':=j9 (i:=0) hb;have c1':=i6 (i:=1) hb rfl;have z1':=j9 (i:=1) hb;unfold Oper.wp;simp[go_sem,execOp,Act.eval,f2,d0,c0',z0',c1',z1'];exact⟨Qs nb (j7 (j7 hb)),undef,j7 (j7 hb)⟩
    ·have c0':=i6 (i:=0) hb rfl;have z0':=j9 (i:=0) hb;have c1':=i6 (i:=1) hb rfl;have z1':=j9 (i:=1) hb;unfold Oper.wp;simp[go_sem,execOp,Act.eval,f2,d0,c0',z0',c1',z1'];exact⟨Qs nb (j7 (j7 hb)),undef,j7 (j7 hb)⟩
   ·have f3:=hfree 3 kr0;have d1:=hdeep 1 kr0;simp only[au9,got]at f3 d1;simp[go_sem]at f3;rcases QI hg b23 with hb|hb
    ·have c0':=i6 (i:=0) hb rfl;have z0':=j9 (i:=0) hb;have c1':=i6 (i:=1) hb rfl;have z1':=j9 (i:=1) hb;unfold Oper.wp;simp[go_sem,execOp,Act.eval,f3,d1,c0',z0',c1',z1'];exact⟨J0 nb (j7 (j7 hb)),undef,j7 (j7 hb)⟩
    ·have c0':=i6 (i:=0) hb rfl;have z0':=j9 (i:=0) hb;have c1':=i6 (i:=1) hb rfl;have z1':=j9 (i:=1) hb;unfold Oper.wp;simp[go_sem,execOp,Act.eval,f3,d1,c0',z0',c1',z1'];exact⟨J0 nb (j7 (j7 hb)),undef,j7 (j7 hb)⟩
   ·unfold Oper.wp;simp[go_sem,execOp,Act.eval,↓IntWalk.iteOmega];exact⟨_,rfl,zL _,by simp[au9,upd]⟩
  case fin=>
   rintro t w9 hg hΦ;have h9:=hΦ 2 dc0;have h10:=hΦ 3 dc0;have h11:=hΦ 4 dc0;simp only[au9]at h9 h10 h11;have ox9:=ox3.two hg b13 b23 dc0 dc0;have kh9:=kh3.two hg b13 b23 dc0 dc0;have rows9:∀j,j<hs1.length→Own 32 2 f2 w w9 (nth dRH hs1 j).ao (nth dRH hs1 j).n (nth dRH hs1 j).cap (nth [] (H5 gr).ks j):=fun j hj=>((rows6 j hj).two_same hg b13 dc0 l20).base zT
   have hx9:=al7 hg hx3 om0 om0;simp only[zh,List.take_succ_cons,List.take_zero,List.take_nil,Act.put];simp only[List.setIfInBounds_toArray,List.set_cons_succ,List.set_cons_zero,h11];simp only[List.drop_succ_cons,List.drop_zero];have k0:=i6 (i:=0) h9 rfl;have k1:=i6 (i:=1) h9 rfl;have k2:=i6 (i:=0) h10 rfl;have k3:=i6 (i:=1) h10 rfl;clear hΦ hg f0 f1 f2' f3' rows6 ox3 kh3 bH3 b13 b23 bv3 hx3;go_wp2;have hpost:a3l w (H5 gr) (zb gr.sl) (zQ gr.sl) 0 (.returned (.tuple #[.agg #[.slice xa (qP gr.sl).length xc,.slice ka kn kc],.agg #[.int .i64 (zb gr.sl),.int .i64 (zQ gr.sl)],.int .i64 0])) w9:=by
    refine⟨xa,xc,ka,kc,hs1,?_,hx9,?_⟩
    ·rw[hMk];rfl
    ·rw[hMk];exact⟨ox9,kh9,hMl,rows9⟩
   exact bodyPost_ret (v:=.tuple #[.agg #[.slice xa (qP gr.sl).length xc,.slice ka kn kc],.agg #[.int .i64 (zb gr.sl),.int .i64 (zQ gr.sl)],.int .i64 0]) (by simp[results,Tryz.results155,go_sem,k0,k1,k2,k3]) rfl hpost
end
end Go.Proofs.YtcekcihijdipoaaGreat
