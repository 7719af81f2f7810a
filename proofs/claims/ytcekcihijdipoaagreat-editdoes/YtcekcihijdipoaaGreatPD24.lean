/- A pack of texts: EdCk2, EdCk3, EdMay. -/
import Derived.Test.YtcekcihijdipoaaGreatPD23
namespace Go.Proofs.YtcekcihijdipoaaGreat
set_option maxRecDepth 100000
set_option maxHeartbeats 16000000
open Go.RowKit Go.ChangeShapes Go.WideShapes Go.ChangeAt
set_option linter.unusedSimpArgs false
set_option linter.unusedVariables false
attribute [local go_sem] qn qZ A2 zg zz zA t5 qJ zf qO qD t6
section
theorem al3{w:World}{h:MH}{hs:List PH}{m:Ms}{er:Int}(he:L3 m=er)(hm:I6 w h hs m):Calls Tryz.prog 77 #[.agg #[.slice h.va h.vn h.vc,.slice h.ua h.un h.uc,.slice h.pa h.pn h.pc]] w fun e w'=>e=.returned (.int .i64 er)∧Below w.heap.size w w':=
 he▸a0M _ _ _ _ _ _ _ _ _ hs m w hm
theorem at2(h:MH)(hs:List PH)(m:Ms){b:Bool}(hb:N3 m=b)(w:World)(hm:I6 w h hs m):Calls Tryz.prog 76 #[.agg #[.slice h.va h.vn h.vc,.slice h.ua h.un h.uc,.slice h.pa h.pn h.pc]] w fun e w'=>e=.returned (.bool !b)∧∃y,w'=plus w y:=by
 subst hb;unfold N3;obtain⟨er,he⟩:∃e,L3 m=e:=⟨_,rfl⟩;rw[he];by_cases h0:er=0
 ·subst h0;go_enter Tryz.func76,Tryz.ntmps76;go_wp2_with (go_at_call 77;refine pm0 (al3 he (hm.ex sk9)) fun nx=>?_);go_ret;exact⟨rfl,sk9⟩
 ·have d0:(er==0)=false:=by rw[beq_eq_false_iff_ne];exact h0
  go_enter Tryz.func76,Tryz.ntmps76;go_wp2_with (go_at_call 77;refine pm0 (al3 he (hm.ex sk9)) fun nx=>?_);go_ret;exact⟨by simp[h0],sk9⟩
theorem a0E(ao:Option Addr)(n cap:Nat)(hs:List MH)(ps:List (List PH))(ms:List Ms)(w:World)(hl:Lay fMh w ao n hs)(hM:QC w hs ps ms)(hn:n≤9223372036854775807):
  Calls Tryz.prog 133 #[.slice ao n cap,.func (.func 76) #[] #[]] w fun e w'=>∃v:Int,e=.returned (.int .i64 v)∧decide (0≤v)=(!ms.all N3)∧∃y,w'=plus w y:=by
 have hlen:=hl.len;have mlen:=hM.len;go_enter Tryz.func133,Tryz.ntmps133;go_wp2;go_loopw [8] (fun i wr=>∃k:Nat,k≤n∧i=.int .i64 k∧(∀j,j<k→N3 (nth ms0 ms j)=true)∧∃y,wr=plus w y) (fun i _=>n - (intOf i).toNat)
 case atStart=>exact⟨0,Nat.zero_le _,rfl,fun j hj=>om0,sk9⟩
 case round=>
  obtain⟨k,hk,rfl,hs1,y,rfl⟩:=hrel;by_cases hkl:k<n
  ·obtain⟨g,off,rfl,hg,hcell⟩:=hl.some om0;obtain⟨c0,c1,c2⟩:=a0p hlen hcell hkl;have hone:=hM.one k om0;have ik:(k:Int)<(n:Int):=om0;cases hok:N3 (nth ms0 ms k)
   ·replace hok:=qw.mk hok
    go_wp2_with (go_at_call 76;refine pq0 (at2 _ _ _ hok.it _ (hone.ex sk9)) fun nx=>?_);go_ret;exact⟨k,rfl,by rw[C1 (k:=k) om0 hok.it];exact decide_eq_true om0,sk9⟩
   ·replace hok:=qw.mk hok
    go_wp2_with (go_at_call 76;refine pq0 (at2 _ _ _ hok.it _ (hone.ex sk9)) fun nx=>?_);go_roundw
    case rel=>exact⟨k+1,om0,by go_num,zX hs1 hok.it,sk9⟩
    case measure=>simp[intOf];omega
  ·have ik:¬(k:Int)<(n:Int):=om0;obtain rfl:n=k:=om0;have hall:ms.all N3=true:=K5 (fun j hj=>hs1 j om0)
   replace hall:=qw.mk hall
   clear hs1;go_wp2;go_ret;exact⟨-1,rfl,by rw[hall.it];rfl,sk9⟩
theorem ak8(ao:Option Addr)(n cap:Nat)(hs:List MH)(ps:List (List PH))(ms:List Ms)(w:World)(hl:Lay fMh w ao n hs)(hM:QC w hs ps ms)(hn:n≤9223372036854775807):
  Calls Tryz.prog 75 #[.slice ao n cap,.func (.func 76) #[] #[]] w fun e w'=>e=.returned (.bool (!ms.all N3))∧∃y,w'=plus w y:=by
 go_enter Tryz.func75,Tryz.ntmps75;go_wp2_with (go_at_call 133;refine(a0E ao n cap hs ps ms _ (hl.ex sk9) (hM.ex sk9) hn).mono ?_;rintro e w' ⟨v,rfl,hv,nx,rfl⟩;replace hv:=qw.mk hv);go_ret;exact⟨by rw[←hv.it];rfl,sk9⟩
theorem J6(ao:Option Addr)(n cap:Nat)(hs:List MH)(ps:List (List PH))(ms:List Ms)(w:World)(hl:Lay fMh w ao n hs)(hM:QC w hs ps ms)(hn:n≤9223372036854775807){v:Bool}(hv:(ms.all N3&&decide (ms.length≤32))=v):
  Calls Tryz.prog 29 #[.slice ao n cap] w fun e w'=>e=.returned (.bool v)∧∃y,w'=plus w y:=by
 have hlen:=hl.len;have mlen:=hM.len;subst hv;by_cases h32:32<n
 ·have i32:(32:Int)<(n:Int):=om0;go_enter Tryz.func29,Tryz.ntmps29;go_wp2_with fail;go_ret;exact⟨by rw[decide_eq_false (show¬ms.length≤32 by omega),Bool.and_false];rfl,sk9⟩
 ·have i32:¬(32:Int)<(n:Int):=om0;obtain⟨b,hb⟩:∃b,ms.all N3=b:=⟨_,rfl⟩;rw[decide_eq_true (show ms.length≤32 by omega),Bool.and_true,hb]
  replace hb:=qw.mk hb
  go_enter Tryz.func29,Tryz.ntmps29;go_wp2_with (go_at_call 75;refine pq0 (ak8 ao n cap hs ps ms _ (hl.ex sk9) (hM.ex sk9) hn) fun nx=>?_;rw[hb.it]);go_ret;exact⟨by cases b<;>rfl,sk9⟩
theorem a22(h:SH)(x:SX)(s:Sc)(w:World)(hA:Zu w h x s)(hok:QV s.g=true){v:Bool}(hv:(decide (s.ns.length=s.g.ks.length)&&O8 s)=v):Calls Tryz.prog 28 #[vS h] w fun e w'=>e=.returned (.bool v)∧∃y,w'=plus w y:=by
 have hS:=hA.small;have hG:=hA.g;have hR:=hA.r;have lmn:=hA.mn.1;have ltn:=hA.tn.1;clear hA;obtain⟨ga,gn,gc,ka,kn,kc,na,nn,nc,ma,mn,mc,ta,tn,tc,r0,r1⟩:=h;have nl:=hR.nl;have ns:=hR.ns;have ml:=hR.ml;have ms:=hR.ms;have tl:=hR.tl;have ts:=hR.ts;have n3:=hR.n3;have n1:=hR.n1;have n2:=hR.n2;have hr:=hR.root;simp only at nl ml ms tl ts n1 n2 n3 hr hG;clear hR;have nlen:=nl.len;have nlen2:=ns.len;have mlen:=ml.len;have mlen2:=ms.len;unfold vS;simp only at lmn ltn ⊢;obtain⟨_,gok,_,_⟩:=zx hok;have gl:=hG.kl;have gs:=hG.sl;have gsl:=gs.len;have gk:=hG.kh;have gkl:=gk.len;obtain rfl:gn=kn:=om0;by_cases hnk:nn=gn;rotate_left
 ·have dne:((nn:Int)==(gn:Int))=false:=by rw[beq_eq_false_iff_ne];omega
  rw[decide_eq_false (show¬s.ns.length=s.g.ks.length by omega),Bool.false_and]at hv;subst hv;go_enter Tryz.func28,Tryz.ntmps28;go_wp2_with fail;go_ret;exact⟨rfl,sk9⟩
 obtain rfl:=hnk;rw[decide_eq_true (show s.ns.length=s.g.ks.length by omega),Bool.true_and]at hv
 replace hv:=qw.mk hv
 obtain⟨b,hb⟩:∃b,w.heap.size=b:=⟨_,rfl⟩;go_enter Tryz.func28,Tryz.ntmps28;go_upto_region 1 with fail;refine qz (fun w'=>(∃y,w'=plus w y)∧w'.heap[b]?=some (.cells #[.slice ga nn gc,.slice ka nn kc,.slice na nn nc,.slice ma mn mc,.slice ta tn tc,.int .i64 r0,.int .i64 r1] 34)) ⟨sk9,hb▸qc _ _⟩ ?_
 try simp only[hb]
 rintro w1 ⟨x1,k0⟩;have c0:=i6 (i:=0) k0 rfl;have c1:=i6 (i:=1) k0 rfl;have c2:=i6 (i:=2) k0 rfl;have c3:=i6 (i:=3) k0 rfl;have c4:=i6 (i:=4) k0 rfl;have c5:=i6 (i:=5) k0 rfl;have c6:=i6 (i:=6) k0 rfl;go_wp2;go_loopw [17] (fun i wr=>∃k:Nat,k≤nn∧i=.int .i64 k∧(∀j,j<k→J5 s j=true)∧∃y,wr=plus w1 y) (fun i _=>nn - (intOf i).toNat)
 case atStart=>exact⟨0,Nat.zero_le _,rfl,fun j hj=>om0,sk9⟩
 case round=>
  obtain⟨k,hk,rfl,hs1,hx⟩:=hrel;by_cases hkl:k<nn
  ·obtain⟨g,off,rfl,hgl,hcell⟩:=nl.some om0;obtain⟨g',off',rfl,hgl',hcell'⟩:=gs.some om0;obtain⟨g'',off'',rfl,hgl'',hcell''⟩:=gk.some om0;have ik:(k:Int)<(nn:Int):=om0;have hp:=qw.mk (F5 (d:=nh0) nlen ag0 hcell hkl);have kr:=qf (i9 x1 hx) (O9 gkl hcell'' hkl);have kv:=qf (i9 x1 hx) (Y3 gsl hcell' (k:=k) om0).2;have a1:=(ns.one k om0).ex (i9 x1 hx);have s1:=hS.n k om0;have hrl:(nth [] s.g.ks k).length=(nth dRH x.gr k).n:=(hG.row k om0).len;obtain⟨bk,hbk⟩:∃v,J5 s k=v:=⟨_,rfl⟩;have hfit:(if (nth dSl s.g.sl k).live then ze mn tn (nth nd0 s.ns k)&&(!decide ((nth nd0 s.ns k).f.kind=5)||decide ((nth dRH x.gr k).n=0))else z7 (nth nd0 s.ns k) nd0)=bk:=by
    rw[←hbk,a4W,a9o,lmn,ltn,hrl]
   replace hfit:=qw.mk hfit
   replace hbk:=qw.mk hbk
   have cb0:=qf hx c0;have cb1:=qf hx c1;have cb2:=qf hx c2;have cb3:=qf hx c3;have cb4:=qf hx c4;have cb5:=qf hx c5;have cb6:=qf hx c6;have kb:=i7 hx k0;have lkb:=qi kb;clear c0 c1 c2 c3 c4 c5 c6 hcell hcell' hcell'';obtain⟨q,hq⟩:∃q,wr.heap.size=q:=⟨_,rfl⟩;go_upto_region 6 with(first|(refine qY rfl 56 _ rfl g (off+k*33) rfl (fN (nth nh0 x.nh k)) _ (fun j v hj=>qf (i9 (i9 x1 hx) sk9) (hp.it j v hj)) Tryz.underlying56 rfl kr0 ?_;simp only[Act.put,List.setIfInBounds_toArray,List.set_cons_succ,List.set_cons_zero])|(refine j6 rfl 56 _ _ rfl q (fN (nth nh0 x.nh k)) (by simp[go_sem,hq]) rfl _ _ (by rw[←hq];exact qc _ _) kr0 kr0 (aa4 _) ?_));refine qz (fun w'=>(∃y,w'=plus wr y)∧w'.heap[q]?=some (.cells (fN (nth nh0 x.nh k)).toArray 56)) ⟨ql sk9 om0,p9 (by rw[←hq];exact qc _ _)⟩ ?_
   try simp only[hq]
   rintro w2 ⟨x2,kq⟩;have lq:=qi kq;have db0:=qf x2 cb0;have db1:=qf x2 cb1;have db2:=qf x2 cb2;have db3:=qf x2 cb3;have db4:=qf x2 cb4;have db5:=qf x2 cb5;have db6:=qf x2 cb6;clear cb0 cb1 cb2 cb3 cb4 cb5 cb6 kb;cases bk
   ·go_wp2_with (first|(refine wpList_load_row rfl 56 _ rfl q rfl _ _ _ _ kq Tryz.underlying56 rfl kr0 ?_)|(go_at_call 74;refine pq0 (ar5 _ _ _ _ _ _ _ _ _ _ _ _ _ _ _ _ _ _ _ k (nth nh0 x.nh k) (nth nd0 s.ns k) _ _ _ _ _ (a1.ex (i9 x2 sk9)) s1 (qf (i9 x2 sk9) kv) (qf (i9 x2 sk9) kr) om0 om0 hfit.it) fun nx=>?_));go_ret;have hno:O8 s=false:=by
     cases h2:O8 s
     ·rfl
     ·simp only[O8,List.all_eq_true,List.mem_range]at h2;rw[h2 k om0]at hbk;cases hbk.it
    exact⟨by rw[←hv.it,hno];rfl,i9 (i9 (i9 x1 hx) x2) sk9⟩
   ·go_wp2_with (first|(refine wpList_load_row rfl 56 _ rfl q rfl _ _ _ _ kq Tryz.underlying56 rfl kr0 ?_)|(go_at_call 74;refine pq0 (ar5 _ _ _ _ _ _ _ _ _ _ _ _ _ _ _ _ _ _ _ k (nth nh0 x.nh k) (nth nd0 s.ns k) _ _ _ _ _ (a1.ex (i9 x2 sk9)) s1 (qf (i9 x2 sk9) kv) (qf (i9 x2 sk9) kr) om0 om0 hfit.it) fun nx=>?_));go_roundw
    case rel=>exact⟨k+1,om0,by go_num,zX hs1 hbk.it,i9 (i9 hx x2) sk9⟩
    case measure=>simp[intOf];omega
  ·have ik:¬(k:Int)<(nn:Int):=om0;obtain rfl:nn=k:=om0;have hall:O8 s=true:=by
    simp only[O8,List.all_eq_true,List.mem_range];exact fun j hj=>hs1 j om0
   replace hall:=qw.mk hall
   clear hs1;go_wp2;go_ret;exact⟨by rw[←hv.it,hall.it];rfl,i9 (i9 x1 hx) sk9⟩
end
section
theorem a3j{x:SX}{s:Sc}{w:World}(hT:ac4 w x.th s.ts):S1 x.th=if 16<s.ts.length then 4 else if s.ts.all Y5 then 0 else 8:=by
 have hl:=hT.len;unfold S1;rw[hl];split
 ·rfl
 have:x.th.all a6c=s.ts.all Y5:=by
  rw[Bool.eq_iff_iff,List.all_eq_true,List.all_eq_true];constructor
  ·intro h t ht;obtain⟨k,hk,rfl⟩:=List.getElem_of_mem ht;have h1:=h _ (F3 (d:=th0) (k:=k) om0);have h2:=ar2 (hT.one k om0);rw[a6c,h2,Qv hk]at h1;exact h1
  ·intro h t ht;obtain⟨k,hk,rfl⟩:=List.getElem_of_mem ht;have h1:=h _ (F3 (d:=tp0) (k:=k) om0);have h2:=ar2 (hT.one k hk);rw[←h2,Qv hk]at h1;exact h1
 rw[this]
theorem U5{ga ka na ma ta:Option Addr}{gn gc kn kc nn nc mn mc tn tc:Nat}{r0 r1:Int}{x:SX}{s:Sc}{w:World}(hA:Zu w ⟨ga,gn,gc,ka,kn,kc,na,nn,nc,ma,mn,mc,ta,tn,tc,r0,r1⟩ x s)(hok:QV s.g=true){v:Bool}(hv:(decide (s.ns.length=s.g.ks.length)&&O8 s)=v):Calls Tryz.prog 28 #[.agg #[.slice ga gn gc,.slice ka kn kc,.slice na nn nc,.slice ma mn mc,.slice ta tn tc,.int .i64 r0,.int .i64 r1]] w fun e w'=>e=.returned (.bool v)∧∃y,w'=plus w y:=a22 ⟨ga,gn,gc,ka,kn,kc,na,nn,nc,ma,mn,mc,ta,tn,tc,r0,r1⟩ x s w hA hok hv
theorem aq5(h:SH)(x:SX)(s:Sc)(w:World)(hA:Zu w h x s):Calls Tryz.prog 12 #[vS h] w fun e w'=>e=.returned (.int .i64 (a17 s))∧∃y,w'=plus w y:=by
 have hG:=hA.g;have hR:=hA.r;have hroot:=hR.root;have ml:=hR.ml;have ms:=hR.ms;have tl:=hR.tl;have ts:=hR.ts;have n2:=hR.n2;have n3:=hR.n3;have hcx:=a3j hR.ts;obtain⟨ga,gn,gc,ka,kn,kc,na,nn,nc,ma,mn,mc,ta,tn,tc,r0,r1⟩:=h;unfold vS;simp only at hG ml tl n2 n3 hroot ⊢;have gs:=hG.sl;have g1:=hG.n1;obtain⟨b1,hb1⟩:∃b,QV s.g=b:=⟨_,rfl⟩;obtain⟨b2,hb2⟩:∃b,(decide (s.ns.length=s.g.ks.length)&&O8 s)=b:=⟨_,rfl⟩;obtain⟨b3,hb3⟩:∃b,(s.ms.all N3&&decide (s.ms.length≤32))=b:=⟨_,rfl⟩;obtain⟨b4,hb4⟩:∃b,(s.ts.all Y5&&decide (s.ts.length≤16))=b:=⟨_,rfl⟩;obtain⟨b5,hb5⟩:∃b,(decide ((r0,r1)=((0,0):Int × Int))||qG s.g.sl r0 r1)=b:=⟨_,rfl⟩;obtain⟨cx,hcx2⟩:∃c,S1 x.th=c:=⟨_,rfl⟩;have hc4:(cx=0)=(b4=true):=by
  rw[←hcx2,hcx,←hb4];by_cases e1:16<s.ts.length<;>cases e2:s.ts.all Y5<;>simp[e1]<;>omega
 have hc48:b4=false→cx=4∨cx=8:=by
  intro e;rw[←hcx2,hcx];rw[←hb4]at e;by_cases e1:16<s.ts.length
  ·rw[if_pos e1];exact .inl rfl
  ·rw[if_neg e1];rw[decide_eq_true (show s.ts.length≤16 by omega),Bool.and_true]at e;rw[e];exact .inr rfl
 have hres:a17 s=if b1&&(b2&&(b3&&(b4&&b5)))then 0 else 8:=by
  unfold a17
  congr 2
  unfold C2 F6 Q4;rw[hroot,hb1,←hb2,←hb3,←hb4,←hb5];generalize decide (s.ns.length=s.g.ks.length)=q1;generalize s.ms.all N3=q2;generalize s.ts.all Y5=q3;generalize decide (s.ms.length≤32)=q4;generalize decide (s.ts.length≤16)=q5;generalize O8 s=q6;cases b1<;>cases q1<;>cases q2<;>cases q3<;>cases q4<;>cases q5<;>cases q6<;>rfl
 rw[hres];clear hres hcx
 replace hb2:=qw.mk hb2
 replace hb3:=qw.mk hb3
 replace hb5:=qw.mk hb5
 replace hcx2:=qw.mk hcx2
 have hgo:b1=true→S5 s.g.sl=true:=fun e=>(zx (hb1.trans e)).1
 have hgp:b1=true→QV s.g=true:=fun e=>hb1.trans e
 have her:QE s.g=if b1 then 0 else 8:=by rw[QE,hb1]
 replace her:=qw.mk her
 clear hb1;cases b1
 ·go_enter Tryz.func12,Tryz.ntmps12;go_wp2_with (first|(go_at_call 27;refine pm0 (her.it▸G7 _ _ _ _ _ _ x.gr s.g _ (hG.ex sk9)) fun nx=>?_)|(go_at_call 28;refine pq0 (U5 (hA.ex sk9) hgg.it hb2.it) fun nx=>?_)|(go_at_call 29;refine pq0 (J6 _ _ _ x.mh x.ph s.ms _ (ml.ex sk9) (ms.ex sk9) n2 hb3.it) fun nx=>?_)|(go_at_call 30;refine pq0 (P9 hcx2.it (tl.ex sk9) n3) fun nx=>?_)|(go_at_call 31;refine pq0 (J9 _ _ _ _ _ _ _ _ _ _ _ _ _ _ _ _ _ _ _ s.g.sl _ (gs.ex sk9) g1 hga.it hb5.it) fun nx=>?_));go_ret;exact⟨rfl,sk9⟩
 have hga:=qw.mk (hgo rfl);have hgg:=qw.mk (hgp rfl);clear hgo hgp;cases b2
 ·go_enter Tryz.func12,Tryz.ntmps12;go_wp2_with (first|(go_at_call 27;refine pm0 (her.it▸G7 _ _ _ _ _ _ x.gr s.g _ (hG.ex sk9)) fun nx=>?_)|(go_at_call 28;refine pq0 (U5 (hA.ex sk9) hgg.it hb2.it) fun nx=>?_)|(go_at_call 29;refine pq0 (J6 _ _ _ x.mh x.ph s.ms _ (ml.ex sk9) (ms.ex sk9) n2 hb3.it) fun nx=>?_)|(go_at_call 30;refine pq0 (P9 hcx2.it (tl.ex sk9) n3) fun nx=>?_)|(go_at_call 31;refine pq0 (J9 _ _ _ _ _ _ _ _ _ _ _ _ _ _ _ _ _ _ _ s.g.sl _ (gs.ex sk9) g1 hga.it hb5.it) fun nx=>?_));go_ret;exact⟨rfl,sk9⟩
 cases b3
 ·go_enter Tryz.func12,Tryz.ntmps12;go_wp2_with (first|(go_at_call 27;refine pm0 (her.it▸G7 _ _ _ _ _ _ x.gr s.g _ (hG.ex sk9)) fun nx=>?_)|(go_at_call 28;refine pq0 (U5 (hA.ex sk9) hgg.it hb2.it) fun nx=>?_)|(go_at_call 29;refine pq0 (J6 _ _ _ x.mh x.ph s.ms _ (ml.ex sk9) (ms.ex sk9) n2 hb3.it) fun nx=>?_)|(go_at_call 30;refine pq0 (P9 hcx2.it (tl.ex sk9) n3) fun nx=>?_)|(go_at_call 31;refine pq0 (J9 _ _ _ _ _ _ _ _ _ _ _ _ _ _ _ _ _ _ _ s.g.sl _ (gs.ex sk9) g1 hga.it hb5.it) fun nx=>?_));go_ret;exact⟨rfl,sk9⟩
 cases b4
 ·have h48:=hc48 rfl;clear hc4 hc48;rcases h48 with rfl|rfl
  ·go_enter Tryz.func12,Tryz.ntmps12;go_wp2_with (first|(go_at_call 27;refine pm0 (her.it▸G7 _ _ _ _ _ _ x.gr s.g _ (hG.ex sk9)) fun nx=>?_)|(go_at_call 28;refine pq0 (U5 (hA.ex sk9) hgg.it hb2.it) fun nx=>?_)|(go_at_call 29;refine pq0 (J6 _ _ _ x.mh x.ph s.ms _ (ml.ex sk9) (ms.ex sk9) n2 hb3.it) fun nx=>?_)|(go_at_call 30;refine pq0 (P9 hcx2.it (tl.ex sk9) n3) fun nx=>?_)|(go_at_call 31;refine pq0 (J9 _ _ _ _ _ _ _ _ _ _ _ _ _ _ _ _ _ _ _ s.g.sl _ (gs.ex sk9) g1 hga.it hb5.it) fun nx=>?_));go_ret;exact⟨rfl,sk9⟩
  ·go_enter Tryz.func12,Tryz.ntmps12;go_wp2_with (first|(go_at_call 27;refine pm0 (her.it▸G7 _ _ _ _ _ _ x.gr s.g _ (hG.ex sk9)) fun nx=>?_)|(go_at_call 28;refine pq0 (U5 (hA.ex sk9) hgg.it hb2.it) fun nx=>?_)|(go_at_call 29;refine pq0 (J6 _ _ _ x.mh x.ph s.ms _ (ml.ex sk9) (ms.ex sk9) n2 hb3.it) fun nx=>?_)|(go_at_call 30;refine pq0 (P9 hcx2.it (tl.ex sk9) n3) fun nx=>?_)|(go_at_call 31;refine pq0 (J9 _ _ _ _ _ _ _ _ _ _ _ _ _ _ _ _ _ _ _ s.g.sl _ (gs.ex sk9) g1 hga.it hb5.it) fun nx=>?_));go_ret;exact⟨rfl,sk9⟩
 obtain rfl:cx=0:=by rw[hc4]
 clear hc4 hc48;cases b5
 ·go_enter Tryz.func12,Tryz.ntmps12;go_wp2_with (first|(go_at_call 27;refine pm0 (her.it▸G7 _ _ _ _ _ _ x.gr s.g _ (hG.ex sk9)) fun nx=>?_)|(go_at_call 28;refine pq0 (U5 (hA.ex sk9) hgg.it hb2.it) fun nx=>?_)|(go_at_call 29;refine pq0 (J6 _ _ _ x.mh x.ph s.ms _ (ml.ex sk9) (ms.ex sk9) n2 hb3.it) fun nx=>?_)|(go_at_call 30;refine pq0 (P9 hcx2.it (tl.ex sk9) n3) fun nx=>?_)|(go_at_call 31;refine pq0 (J9 _ _ _ _ _ _ _ _ _ _ _ _ _ _ _ _ _ _ _ s.g.sl _ (gs.ex sk9) g1 hga.it hb5.it) fun nx=>?_));go_ret;exact⟨rfl,sk9⟩
 ·go_enter Tryz.func12,Tryz.ntmps12;go_wp2_with (first|(go_at_call 27;refine pm0 (her.it▸G7 _ _ _ _ _ _ x.gr s.g _ (hG.ex sk9)) fun nx=>?_)|(go_at_call 28;refine pq0 (U5 (hA.ex sk9) hgg.it hb2.it) fun nx=>?_)|(go_at_call 29;refine pq0 (J6 _ _ _ x.mh x.ph s.ms _ (ml.ex sk9) (ms.ex sk9) n2 hb3.it) fun nx=>?_)|(go_at_call 30;refine pq0 (P9 hcx2.it (tl.ex sk9) n3) fun nx=>?_)|(go_at_call 31;refine pq0 (J9 _ _ _ _ _ _ _ _ _ _ _ _ _ _ _ _ _ _ _ s.g.sl _ (gs.ex sk9) g1 hga.it hb5.it) fun nx=>?_));go_ret;exact⟨rfl,sk9⟩
end
section
theorem av5{s:Sc}{k:Nat}(hk:k<s.ns.length)(h:J5 s k=false):C2 s=false:=by
 cases h2:C2 s
 ·rfl
 ·rw[(B6 h2).2.2.2.1 k hk]at h;cases h
theorem a0J{h:SH}{hn:NH}{n:Nd}{w:World}(hN:G0 w hn n){b:Bool}(hb:ze h.mn h.tn n=b):
  Calls Tryz.prog 51 #[vS h,vN hn] w fun e w'=>e=.returned (.bool b)∧∃y,w'=plus w y:=by
 obtain⟨ga,gn,gc,ka,kn,kc,na,nn,nc,ma,mn,mc,ta,tn,tc,r0,r1⟩:=h;exact Q9 hN hb
theorem a0D(h:SH)(x:SX)(s:Sc)(w:World)(hG:QL w h.ga h.gn h.ka h.kn x.gr s.g)(hR:QK w h x s)(hS:a6n x):
  Calls Tryz.prog 46 #[vS h] w fun e w'=>e=.returned (.bool (C2 s))∧∃y,w'=plus w y:=by
 have hst:=a00 h x s;have hRe:∀w',(∃y,w'=plus w y)→QK w' h x s:=fun w' hw=>hR.ex hw
 obtain⟨ga,gn,gc,ka,kn,kc,na,nn,nc,ma,mn,mc,ta,tn,tc,r0,r1⟩:=h;have nl:=hR.nl;have ns:=hR.ns;have ml:=hR.ml;have ms:=hR.ms;have tl:=hR.tl;have ts:=hR.ts;have n3:=hR.n3;have n1:=hR.n1;have n2:=hR.n2;have hr:=hR.root;simp only at nl ml ms tl ts n1 n2 n3 hr hG;clear hR;have nlen:=nl.len;have nlen2:=ns.len;have mlen:=ml.len;have mlen2:=ms.len;have tlen3:=tl.len;unfold vS at*;simp only at*;have gl:=hG.kl;have g1:=hG.n1;have gs:=hG.sl;have gsl:=gs.len;have gk:=hG.kh;have gkl:=gk.len;obtain⟨bg,hbg⟩:∃b,QV s.g=b:=⟨_,rfl⟩;obtain⟨bs,hbs⟩:∃b,F6 s=b:=⟨_,rfl⟩;rw[hbs]at hst
 replace hst:=qw.mk hst
 replace hRe:=qw.mk hRe
 replace hbg:=qw.mk hbg
 replace hbs:=qw.mk hbs
 cases bg
 ·go_enter Tryz.func46,Tryz.ntmps46;go_wp2_with (go_at_call 88;refine pm0 (G1 _ _ _ _ _ _ x.gr s.g _ (hG.ex sk9)) fun nx=>?_;rw[hbg.it]);go_ret;exact⟨by rw[show C2 s=false by simp[C2,hbg.it]];rfl,sk9⟩
 by_cases hnk:nn=kn;rotate_left
 ·have dne:((nn:Int)==(kn:Int))=false:=by rw[beq_eq_false_iff_ne];omega
  go_enter Tryz.func46,Tryz.ntmps46;go_wp2_with (go_at_call 88;refine pm0 (G1 _ _ _ _ _ _ x.gr s.g _ (hG.ex sk9)) fun nx=>?_;rw[hbg.it]);go_ret;exact⟨by rw[show C2 s=false by simp[C2,show¬s.ns.length=s.g.ks.length by omega]];rfl,sk9⟩
 subst hnk;cases bs
 ·go_enter Tryz.func46,Tryz.ntmps46;go_wp2_with (first|(go_at_call 88;refine pm0 (G1 _ _ _ _ _ _ x.gr s.g _ (hG.ex sk9)) fun nx=>?_;rw[hbg.it])|(go_at_call 89;refine pq0 (hst.it _ (hRe.it _ sk9)) fun nx=>?_));go_ret;exact⟨by rw[show C2 s=false by simp[C2,hbs.it]];rfl,sk9⟩
 have gok:=zx hbg.it;obtain rfl:gn=nn:=om0
 replace gok:=qw.mk gok
 go_enter Tryz.func46,Tryz.ntmps46;go_wp2_with (first|(go_at_call 88;refine pm0 (G1 _ _ _ _ _ _ x.gr s.g _ (hG.ex sk9)) fun nx=>?_;rw[hbg.it])|(go_at_call 89;refine pq0 (hst.it _ (hRe.it _ sk9)) fun nx=>?_));go_loopw [3] (fun i wr=>∃k:Nat,k≤gn∧i=.int .i64 k∧(∀j,j<k→J5 s j=true)∧∃y,wr=plus (w.alloc (.cells #[.slice ga gn gc,.slice ka gn kc,.slice na gn nc,.slice ma mn mc,.slice ta tn tc,.int .i64 r0,.int .i64 r1] 34)) y) (fun i _=>gn - (intOf i).toNat)
 case atStart=>exact⟨0,Nat.zero_le _,rfl,fun j hj=>om0,sk9⟩
 case round=>
  obtain⟨k,hk,rfl,hs1,y,rfl⟩:=hrel;by_cases hkl:k<gn
  ·obtain⟨g,off,rfl,hgl,hcell⟩:=nl.some om0;obtain⟨g',off',rfl,hgl',hcell'⟩:=gs.some om0;obtain⟨g'',off'',rfl,hgl'',hcell''⟩:=gk.some om0;have ik:(k:Int)<(gn:Int):=om0;have ig:(k:Int)<(gn:Int):=om0;have hp:=F5 (d:=nh0) nlen ag0 hcell hkl;have kc:=hp 0 _ rfl;rw[Nat.add_zero]at kc;have kr:=O9 gkl hcell'' hkl;have kv:=(Y3 gsl hcell' (k:=k) om0).2;have a1:=ns.one k om0;have s1:=hS.n k om0;have hkind:(nth nd0 s.ns k).f.kind=(nth nh0 x.nh k).f.kind:=by rw[a1.f]
   have hrl:(nth [] s.g.ks k).length=(nth dRH x.gr k).n:=(hG.row k om0).len;obtain⟨kd,hkd⟩:∃kd,(nth nh0 x.nh k).f.kind=kd:=⟨_,rfl⟩;obtain⟨lv,hlv⟩:∃b,(nth dSl s.g.sl k).live=b:=⟨_,rfl⟩;obtain⟨rn,hrn⟩:∃b,(nth dRH x.gr k).n=b:=⟨_,rfl⟩;obtain⟨bm,hbm⟩:∃b,ze mn tn (nth nd0 s.ns k)=b:=⟨_,rfl⟩;obtain⟨bz,hbz⟩:∃b,z7 (nth nd0 s.ns k) nd0=b:=⟨_,rfl⟩;have hno:J5 s k= !((lv&&!bm)||((!lv&&!bz)||(decide (kd=5)&&decide (0<rn)))):=by
    unfold J5 P0;rw[show s.ms.length=mn by omega,show s.ts.length=tn by rw[←ts.len];exact tl.len,hkind,hkd,hrl,hrn,hlv,hbm,hbz]
   rw[hkd]at kc;rw[hrn]at kr;rw[hlv]at kv;have hP:=qw.mk (And.intro hp (And.intro hcell (And.intro hcell' hcell'')))
   replace hno:=qw.mk hno
   replace hbm:=qw.mk hbm
   replace hbz:=qw.mk hbz
   replace a1:=qw.mk a1
   clear hp hcell hcell' hcell'' hkind hrl hkd hrn hlv;have fin:∀b,J5 s k=b→qw (J5 s k=b):=fun b h=>qw.mk h
   cases lv
   ·cases bz
    ·have hno2:J5 s k=false:=by rw[hno.it];simp[]
     replace hno2:=qw.mk hno2
     go_wp2;refine qg kr0 kr0 ?_
     (repeat(first|go_big_quiet_skip|(refine qL 56 _ rfl g (off+k*33) rfl (fN (nth nh0 x.nh k)) _ (fun w' hw j v hj=>qf (i9 sk9 hw) (hP.it.1 j v hj)) Tryz.underlying56 rfl kr0 kr0 ?_;simp only[Act.put,List.setIfInBounds_toArray,List.set_cons_succ,List.set_cons_zero])|go_big_quiet_step (first|(go_at_call 51;exact C9 (Q9 (h:=nth nh0 x.nh k) (a1.it.ex sk9) hbm.it))|(go_at_call 90;exact C9 (Zb (h:=nth nh0 x.nh k) (a1.it.ex sk9) s1 hbz.it)))))
     refine wpQuiet_nil ?_;rintro _ ⟨x2,rfl⟩;go_wp2;go_ret;exact⟨by rw[av5 (k:=k) om0 hno2.it];rfl,sk9⟩
    ·by_cases h5:kd=5
     ·subst h5;by_cases h0:0<rn
      ·have i0:(0:Int)<(rn:Int):=om0;have e0:=decide_eq_true i0;have hno2:J5 s k=false:=by rw[hno.it];simp[h0]
       replace hno2:=qw.mk hno2
       go_wp2;refine qg kr0 kr0 ?_
       (repeat(first|go_big_quiet_skip|(refine qL 56 _ rfl g (off+k*33) rfl (fN (nth nh0 x.nh k)) _ (fun w' hw j v hj=>qf (i9 sk9 hw) (hP.it.1 j v hj)) Tryz.underlying56 rfl kr0 kr0 ?_;simp only[Act.put,List.setIfInBounds_toArray,List.set_cons_succ,List.set_cons_zero])|go_big_quiet_step (first|(go_at_call 51;exact C9 (Q9 (h:=nth nh0 x.nh k) (a1.it.ex sk9) hbm.it))|(go_at_call 90;exact C9 (Zb (h:=nth nh0 x.nh k) (a1.it.ex sk9) s1 hbz.it)))))
       refine wpQuiet_nil ?_;rintro _ ⟨x2,rfl⟩;go_wp2;go_ret;exact⟨by rw[av5 (k:=k) om0 hno2.it];rfl,sk9⟩
      ·have i0:¬(0:Int)<(rn:Int):=om0;have e0:=decide_eq_false i0;have hno2:J5 s k=true:=by rw[hno.it];simp[h0]
       replace hno2:=qw.mk hno2
       go_wp2;refine qg kr0 kr0 ?_
       (repeat(first|go_big_quiet_skip|(refine qL 56 _ rfl g (off+k*33) rfl (fN (nth nh0 x.nh k)) _ (fun w' hw j v hj=>qf (i9 sk9 hw) (hP.it.1 j v hj)) Tryz.underlying56 rfl kr0 kr0 ?_;simp only[Act.put,List.setIfInBounds_toArray,List.set_cons_succ,List.set_cons_zero])|go_big_quiet_step (first|(go_at_call 51;exact C9 (Q9 (h:=nth nh0 x.nh k) (a1.it.ex sk9) hbm.it))|(go_at_call 90;exact C9 (Zb (h:=nth nh0 x.nh k) (a1.it.ex sk9) s1 hbz.it)))))
       refine wpQuiet_nil ?_;rintro _ ⟨x2,rfl⟩;go_wp2;go_roundw
       case rel=>exact⟨k+1,om0,by go_num,zX hs1 hno2.it,sk9⟩
       case measure=>simp[intOf];omega
     ·have dk:(kd==5)=false:=by rw[beq_eq_false_iff_ne];exact h5
      have hno2:J5 s k=true:=by rw[hno.it];simp[h5]
      replace hno2:=qw.mk hno2
      go_wp2;refine qg kr0 kr0 ?_
      (repeat(first|go_big_quiet_skip|(refine qL 56 _ rfl g (off+k*33) rfl (fN (nth nh0 x.nh k)) _ (fun w' hw j v hj=>qf (i9 sk9 hw) (hP.it.1 j v hj)) Tryz.underlying56 rfl kr0 kr0 ?_;simp only[Act.put,List.setIfInBounds_toArray,List.set_cons_succ,List.set_cons_zero])|go_big_quiet_step (first|(go_at_call 51;exact C9 (Q9 (h:=nth nh0 x.nh k) (a1.it.ex sk9) hbm.it))|(go_at_call 90;exact C9 (Zb (h:=nth nh0 x.nh k) (a1.it.ex sk9) s1 hbz.it)))))
      refine wpQuiet_nil ?_;rintro _ ⟨x2,rfl⟩;go_wp2;go_roundw
      case rel=>exact⟨k+1,om0,by go_num,zX hs1 hno2.it,sk9⟩
      case measure=>simp[intOf];omega
   ·cases bm
    ·have hno2:J5 s k=false:=by rw[hno.it];simp[]
     replace hno2:=qw.mk hno2
     go_wp2;refine qg kr0 kr0 ?_
     (repeat(first|go_big_quiet_skip|(refine qL 56 _ rfl g (off+k*33) rfl (fN (nth nh0 x.nh k)) _ (fun w' hw j v hj=>qf (i9 sk9 hw) (hP.it.1 j v hj)) Tryz.underlying56 rfl kr0 kr0 ?_;simp only[Act.put,List.setIfInBounds_toArray,List.set_cons_succ,List.set_cons_zero])|go_big_quiet_step (first|(go_at_call 51;exact C9 (Q9 (h:=nth nh0 x.nh k) (a1.it.ex sk9) hbm.it))|(go_at_call 90;exact C9 (Zb (h:=nth nh0 x.nh k) (a1.it.ex sk9) s1 hbz.it)))))
     refine wpQuiet_nil ?_;rintro _ ⟨x2,rfl⟩;go_wp2;go_ret;exact⟨by rw[av5 (k:=k) om0 hno2.it];rfl,sk9⟩
    ·by_cases h5:kd=5
     ·subst h5;by_cases h0:0<rn
      ·have i0:(0:Int)<(rn:Int):=om0;have e0:=decide_eq_true i0;have hno2:J5 s k=false:=by rw[hno.it];simp[h0]
       replace hno2:=qw.mk hno2
       go_wp2;refine qg kr0 kr0 ?_
       (repeat(first|go_big_quiet_skip|(refine qL 56 _ rfl g (off+k*33) rfl (fN (nth nh0 x.nh k)) _ (fun w' hw j v hj=>qf (i9 sk9 hw) (hP.it.1 j v hj)) Tryz.underlying56 rfl kr0 kr0 ?_;simp only[Act.put,List.setIfInBounds_toArray,List.set_cons_succ,List.set_cons_zero])|go_big_quiet_step (first|(go_at_call 51;exact C9 (Q9 (h:=nth nh0 x.nh k) (a1.it.ex sk9) hbm.it))|(go_at_call 90;exact C9 (Zb (h:=nth nh0 x.nh k) (a1.it.ex sk9) s1 hbz.it)))))
       refine wpQuiet_nil ?_;rintro _ ⟨x2,rfl⟩;go_wp2;go_ret;exact⟨by rw[av5 (k:=k) om0 hno2.it];rfl,sk9⟩
      ·have i0:¬(0:Int)<(rn:Int):=om0;have e0:=decide_eq_false i0;have hno2:J5 s k=true:=by rw[hno.it];simp[h0]
       replace hno2:=qw.mk hno2
       go_wp2;refine qg kr0 kr0 ?_
       (repeat(first|go_big_quiet_skip|(refine qL 56 _ rfl g (off+k*33) rfl (fN (nth nh0 x.nh k)) _ (fun w' hw j v hj=>qf (i9 sk9 hw) (hP.it.1 j v hj)) Tryz.underlying56 rfl kr0 kr0 ?_;simp only[Act.put,List.setIfInBounds_toArray,List.set_cons_succ,List.set_cons_zero])|go_big_quiet_step (first|(go_at_call 51;exact C9 (Q9 (h:=nth nh0 x.nh k) (a1.it.ex sk9) hbm.it))|(go_at_call 90;exact C9 (Zb (h:=nth nh0 x.nh k) (a1.it.ex sk9) s1 hbz.it)))))
       refine wpQuiet_nil ?_;rintro _ ⟨x2,rfl⟩;go_wp2;go_roundw
       case rel=>exact⟨k+1,om0,by go_num,zX hs1 hno2.it,sk9⟩
       case measure=>simp[intOf];omega
     ·have dk:(kd==5)=false:=by rw[beq_eq_false_iff_ne];exact h5
      have hno2:J5 s k=true:=by rw[hno.it];simp[h5]
      replace hno2:=qw.mk hno2
      go_wp2;refine qg kr0 kr0 ?_
      (repeat(first|go_big_quiet_skip|(refine qL 56 _ rfl g (off+k*33) rfl (fN (nth nh0 x.nh k)) _ (fun w' hw j v hj=>qf (i9 sk9 hw) (hP.it.1 j v hj)) Tryz.underlying56 rfl kr0 kr0 ?_;simp only[Act.put,List.setIfInBounds_toArray,List.set_cons_succ,List.set_cons_zero])|go_big_quiet_step (first|(go_at_call 51;exact C9 (Q9 (h:=nth nh0 x.nh k) (a1.it.ex sk9) hbm.it))|(go_at_call 90;exact C9 (Zb (h:=nth nh0 x.nh k) (a1.it.ex sk9) s1 hbz.it)))))
      refine wpQuiet_nil ?_;rintro _ ⟨x2,rfl⟩;go_wp2;go_roundw
      case rel=>exact⟨k+1,om0,by go_num,zX hs1 hno2.it,sk9⟩
      case measure=>simp[intOf];omega
  ·have ik:¬(k:Int)<(gn:Int):=om0;obtain rfl:gn=k:=om0;have hall:O8 s=true:=by
    simp only[O8,List.all_eq_true,List.mem_range];exact fun j hj=>hs1 j om0
   replace hall:=qw.mk hall
   obtain⟨br,hbr⟩:∃b,eqh r0 r1 0 0=b:=⟨_,rfl⟩;have qH:=aq9 hbr;have hroot:Q4 s s.root=(br||qG s.g.sl r0 r1):=by
    rw[Q4,hr,←hbr];by_cases e0:r0=0<;>by_cases e1:r1=0<;>simp[eqh,e0,e1]
   have hfin:C2 s=Q4 s s.root:=by
    simp only[C2,hbg.it,hbs.it,hall.it];simp[show s.ns.length=s.g.ks.length by omega]
   replace hroot:=qw.mk hroot
   replace hfin:=qw.mk hfin
   clear hs1 hbr hr;obtain⟨bh,hbh⟩:∃b,qG s.g.sl r0 r1=b:=⟨_,rfl⟩
   replace hbh:=qw.mk hbh
   cases br
   ·go_wp2_with (go_at_call 91;refine pq0 (H9 hbh.it (gs.ex sk9) om0) fun nx=>?_);go_ret;exact⟨by rw[hfin.it,hroot.it,hbh.it];simp,sk9⟩
   ·go_wp2_with (go_at_call 91;refine pq0 (H9 hbh.it (gs.ex sk9) om0) fun nx=>?_);go_ret;exact⟨by rw[hfin.it,hroot.it];rfl,sk9⟩
end
end Go.Proofs.YtcekcihijdipoaaGreat
