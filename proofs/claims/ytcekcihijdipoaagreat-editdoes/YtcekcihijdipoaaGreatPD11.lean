/- A pack of texts: Mesh12, Nodes2, Nodes3, Nodes4. -/
import Derived.Test.YtcekcihijdipoaaGreatPD10
namespace Go.Proofs.YtcekcihijdipoaaGreat
set_option maxRecDepth 100000
set_option maxHeartbeats 16000000
open Go.RowKit Go.ChangeShapes Go.WideShapes Go.ChangeAt
set_option linter.unusedSimpArgs false
set_option linter.unusedVariables false
attribute [local go_sem] qn qZ A2 zg zz zA t5 qJ zf qO qD t6
section
attribute [local go_sem] eqarr_40 nearr_40 larr_40
attribute [local go_sem] eqarr_137 nearr_137 larr_137
attribute [local go_sem] isnil_47
attribute [local go_sem] isnil_57
attribute [local go_sem] isnil_58
attribute [local go_sem] isnil_59
theorem a7T{v:V3}(h1:inR (-1024) 1024 v.x=true)(h2:inR (-1024) 1024 v.y=true)(h3:inR (-1024) 1024 v.z=true):vOk v=true:=by simp[vOk,h1,h2,h3]
theorem a7G{v:Int × Int}(h1:inR 0 255 v.1=true)(h2:inR 0 255 v.2=true):uOk v=true:=by simp[uOk,h1,h2]
theorem T2(va ua pa:Option Addr)(vn vc un uc pn pc:Nat)(hs:List PH)(m:Ms)(w:World)(hm:I6 w ⟨va,vn,vc,ua,un,uc,pa,pn,pc⟩ hs m)(hvn:vn≤64)(hpn:pn≤16):
  Calls Tryz.prog 174 #[.agg #[.slice va vn vc,.slice ua un uc,.slice pa pn pc]] w fun e w'=>e=.returned (.bool (ZP m))∧Below w.heap.size w w':=by
 have hvl:Lay fV w va vn m.vs:=hm.vl;have hul:Lay f2 w ua un m.uv:=hm.ul;have hpl:Lay fP w pa pn hs:=hm.pl;have hpp:M3 w hs m.ps:=hm.pp;have lv:=hvl.len;have lu:=hul.len;have lp:=hpl.len;have lq:=hpp.len;have hun:=hm.ule;simp only at hun;by_cases he:un=vn;rotate_left
 ·rw[show ZP m=false by(have:¬m.uv.length=m.vs.length:=om0);simp[ZP,this]];have ie:¬(un:Int)=(vn:Int):=om0;have de:((un:Int)==(vn:Int))=false:=by rw[beq_eq_false_iff_ne];omega
  go_enter Tryz.func174,Tryz.ntmps174;go_wp2;go_ret;exact⟨rfl,skB⟩
 subst he;go_enter Tryz.func174,Tryz.ntmps174;go_wp2;go_loopw [3] (fun i wr=>∃k:Nat,k≤un∧i=.int .i64 k∧(∀j,j<k→vOk (nth zl m.vs j)=true)∧(∀j,j<k→uOk (nth (0,0) m.uv j)=true)∧∃x,wr=plus (w.alloc (.cells #[.slice va un vc,.slice ua un uc,.slice pa pn pc] 61)) x) (fun i _=>un - (intOf i).toNat)
 case atStart=>exact⟨0,Nat.zero_le _,rfl,fun j hj=>om0,fun j hj=>om0,skM⟩
 case round=>
  obtain⟨k,hk,rfl,hs1,hs2,x,rfl⟩:=hrel;by_cases hkl:k<un
  ·obtain⟨g,off,rfl,hg,hcell⟩:=hvl.some om0;obtain⟨g2,off2,rfl,hg2,hcell2⟩:=hul.some om0;obtain⟨c0,c1,c2⟩:=a5H hvl.len hcell hkl;obtain⟨d0,d1⟩:=Y4 hul.len hcell2 hkl;have ik:(k:Int)<(un:Int):=om0;cases h1:inR (-1024) 1024 (nth zl m.vs k).x
   ·have hA:m.vs.all vOk=false:=C1 (d:=zl) (k:=k) om0 (by simp[vOk,h1]);have hno:ZP m=false:=by rw[ZP,hA,Bool.false_and,Bool.false_and,Bool.false_and]
    go_wp2_with (go_at_call 183;refine pm0 (R3 _ _ _ _) fun nx=>?_);go_ret;exact⟨by rw[hno];rfl,skB⟩
   cases h2:inR (-1024) 1024 (nth zl m.vs k).y
   ·have hA:m.vs.all vOk=false:=C1 (d:=zl) (k:=k) om0 (by simp[vOk,h2]);have hno:ZP m=false:=by rw[ZP,hA,Bool.false_and,Bool.false_and,Bool.false_and]
    go_wp2_with (go_at_call 183;refine pm0 (R3 _ _ _ _) fun nx=>?_);go_ret;exact⟨by rw[hno];rfl,skB⟩
   cases h3:inR (-1024) 1024 (nth zl m.vs k).z
   ·have hA:m.vs.all vOk=false:=C1 (d:=zl) (k:=k) om0 (by simp[vOk,h3]);have hno:ZP m=false:=by rw[ZP,hA,Bool.false_and,Bool.false_and,Bool.false_and]
    go_wp2_with (go_at_call 183;refine pm0 (R3 _ _ _ _) fun nx=>?_);go_ret;exact⟨by rw[hno];rfl,skB⟩
   cases h4:inR (0) 255 (nth (0,0) m.uv k).1
   ·have hA:m.uv.all uOk=false:=C1 (d:=(0,0)) (k:=k) om0 (by simp[uOk,h4]);have hno:ZP m=false:=by rw[ZP,hA,Bool.and_false,Bool.false_and]
    go_wp2_with (go_at_call 183;refine pm0 (R3 _ _ _ _) fun nx=>?_);go_ret;exact⟨by rw[hno];rfl,skB⟩
   cases h5:inR (0) 255 (nth (0,0) m.uv k).2
   ·have hA:m.uv.all uOk=false:=C1 (d:=(0,0)) (k:=k) om0 (by simp[uOk,h5]);have hno:ZP m=false:=by rw[ZP,hA,Bool.and_false,Bool.false_and]
    go_wp2_with (go_at_call 183;refine pm0 (R3 _ _ _ _) fun nx=>?_);go_ret;exact⟨by rw[hno];rfl,skB⟩
   go_wp2_with (go_at_call 183;refine pm0 (R3 _ _ _ _) fun nx=>?_);go_roundw
   case rel=>exact⟨k+1,om0,by go_num,C4 hs1 (a7T h1 h2 h3),C4 hs2 (a7G h4 h5),skM⟩
   case measure=>simp[intOf];omega
  ·have ik:¬(k:Int)<(un:Int):=om0;have hv:m.vs.all vOk=true:=K5 (d:=zl) (fun j hj=>hs1 j om0);have hu:m.uv.all uOk=true:=K5 (d:=(0,0)) (fun j hj=>hs2 j om0);cases ha:ah7 un m.ps
   ·have hno:ZP m=false:=by
     have:az5 m.vs.length m.ps=false:=by rw[lv,az5,show m.ps.all (pOk un)=false from ha,Bool.false_and]
     rw[ZP,this,Bool.and_false]
    go_wp2_with (go_at_call 184;refine(ao5 _ _ _ _ _ _ _ _ _ hs m.ps _ (hpl.ex snM) (hpp.ex snM) om0 om0).mono ?_;rintro e w1 ⟨ao1,m1,cap1,rfl,hw1,hl1⟩;rw[ha]);go_ret;exact⟨by rw[hno];rfl,B5 snM⟩
   ·have hms:ZP m=decide (T4 m.ps m.ps.length≤64):=by rw[ZP,hv,hu,lu,lv,az5,show m.ps.all (pOk un)=true from ha];simp
    obtain⟨M,hM⟩:∃M,T4 m.ps m.ps.length=M:=⟨_,rfl⟩;have hML:(a5W m.ps m.ps.length).length=M:=hM;rw[hM]at hms;by_cases h64:M≤64
    ·have i64:(M:Int)≤64:=om0;go_wp2_with (go_at_call 184;refine(ao5 _ _ _ _ _ _ _ _ _ hs m.ps _ (hpl.ex snM) (hpp.ex snM) om0 om0).mono ?_;rintro e w1 ⟨ao1,m1,cap1,rfl,hw1,hl1⟩;rw[ha];rw[R7,if_pos ha]at hl1;obtain rfl:M=m1:=hML.symm.trans hl1.len);go_ret;exact⟨by rw[hms,decide_eq_true h64];rfl,B5 snM⟩
    ·have i64:¬(M:Int)≤64:=om0;have d64:=decide_eq_false i64;go_wp2_with (go_at_call 184;refine(ao5 _ _ _ _ _ _ _ _ _ hs m.ps _ (hpl.ex snM) (hpp.ex snM) om0 om0).mono ?_;rintro e w1 ⟨ao1,m1,cap1,rfl,hw1,hl1⟩;rw[ha];rw[R7,if_pos ha]at hl1;obtain rfl:M=m1:=hML.symm.trans hl1.len);go_ret;exact⟨by rw[hms,decide_eq_false h64];rfl,B5 snM⟩
theorem a0P(va ua pa:Option Addr)(vn vc un uc pn pc:Nat)(hs:List PH)(m:Ms)(w:World)(hm:I6 w ⟨va,vn,vc,ua,un,uc,pa,pn,pc⟩ hs m):
  Calls Tryz.prog 142 #[.agg #[.slice va vn vc,.slice ua un uc,.slice pa pn pc]] w fun e w'=>e=.returned (.int .i64 (L3 m))∧Below w.heap.size w w':=by
 have hvl:Lay fV w va vn m.vs:=hm.vl;have hul:Lay f2 w ua un m.uv:=hm.ul;have hpl:Lay fP w pa pn hs:=hm.pl;have hpp:M3 w hs m.ps:=hm.pp;have lv:=hvl.len;have lu:=hul.len;have lp:=hpl.len;have lq:=hpp.len;by_cases h1:64<vn
 ·rw[show L3 m=4 from if_pos (.inl om0)];have i1:(64:Int)<(vn:Int):=om0;go_enter Tryz.func142,Tryz.ntmps142;go_wp2_with (go_at_call 174;refine pm0 (T2 _ _ _ _ _ _ _ _ _ hs m _ (hm.ex skM) om0 om0) fun nx=>?_;rw[ho]);go_ret;exact⟨rfl,skB⟩
 have i1:¬(64:Int)<(vn:Int):=om0;by_cases h2:64<un
 ·rw[show L3 m=4 from if_pos (.inr (.inl om0))];have i2:(64:Int)<(un:Int):=om0;go_enter Tryz.func142,Tryz.ntmps142;go_wp2_with (go_at_call 174;refine pm0 (T2 _ _ _ _ _ _ _ _ _ hs m _ (hm.ex skM) om0 om0) fun nx=>?_;rw[ho]);go_ret;exact⟨rfl,skB⟩
 have i2:¬(64:Int)<(un:Int):=om0;by_cases h3:16<pn
 ·rw[show L3 m=4 from if_pos (.inr (.inr om0))];have i3:(16:Int)<(pn:Int):=om0;go_enter Tryz.func142,Tryz.ntmps142;go_wp2_with (go_at_call 174;refine pm0 (T2 _ _ _ _ _ _ _ _ _ hs m _ (hm.ex skM) om0 om0) fun nx=>?_;rw[ho]);go_ret;exact⟨rfl,skB⟩
 have i3:¬(16:Int)<(pn:Int):=om0;have hM:¬(64<m.vs.length∨64<m.uv.length∨16<m.ps.length):=om0;rw[L3,if_neg hM];cases ho:ZP m
 ·rw[if_neg dc0];go_enter Tryz.func142,Tryz.ntmps142;go_wp2_with (go_at_call 174;refine pm0 (T2 _ _ _ _ _ _ _ _ _ hs m _ (hm.ex skM) om0 om0) fun nx=>?_;rw[ho]);go_ret;exact⟨rfl,skB⟩
 rw[if_pos rfl];go_enter Tryz.func142,Tryz.ntmps142;go_wp2_with (go_at_call 174;refine pm0 (T2 _ _ _ _ _ _ _ _ _ hs m _ (hm.ex skM) om0 om0) fun nx=>?_;rw[ho]);go_ret;exact⟨rfl,skB⟩
end
section
def fB (b:Bool):List Value:=[.bool b]
theorem a8R:∀x,(fB x).length=1:=fun _=>rfl
theorem a9g{w:World}{g off n k:Nat}{l:List Bool}(hl:l.length=n)(h:∀j u,(l.flatMap fB)[j]?=some u→w.cell? ⟨g,off+j,none⟩=some u)(hk:k<n):w.cell? ⟨g,off+k,none⟩=some (.bool (nth false l k)):=by
 have h0:=A6 (d:=false) hl a8R h k 0 _ hk dc0 rfl;rwa[Nat.mul_one,Nat.add_zero]at h0
theorem ar7:∀n,(List.replicate n false).flatMap fB=List.replicate n (Value.bool false)
 |0=>rfl
 |n+1=>by rw[List.replicate_succ,List.flatMap_cons,ar7 n,List.replicate_succ];rfl
theorem ar1(n:Nat)(hn:n≤100000)(w:World):(Instr.makeSlice 202 (.int .i64 n) (.int .i64 n)).run Tryz.prog w=.ok (.slice (some ⟨w.heap.size,0,none⟩) n n) (w.alloc (.cells ((List.replicate n false).flatMap fB).toArray 4)):=by
 obtain⟨i,hi,hz,h1,h2⟩:=info_parts (show(Tryz.prog.info? 4).map (fun i=>(i.zero,i.size,i.bytes))=some (some (.bool false),1,1)by kernel_rfl);have h:=run_make w 202 4 i (.bool false) Tryz.underlying202 hi hz .i64 .i64 n n om0 (Int.le_refl _) (by rw[h2];omega) om0;rw[Int.toNat_natCast,h1,Nat.mul_one]at h;rw[ar7];have e:=toList_madeCells_one (.bool false) n;rw[←e];exact h
theorem Own.mark{w T:World}{b n cap:Nat}{o:List Bool}(h:Own 4 1 fB T w (some ⟨b,0,none⟩) n cap o)(k:Nat)(hk:k<n):Own 4 1 fB T (w.setCell ⟨b,k,none⟩ (.bool true)) (some ⟨b,0,none⟩) n cap (o.set k true):=by
 have:=h.set_self (u:=.bool true) k 0 true false hk a8R dc0 rfl;rwa[Nat.mul_one,Nat.add_zero]at this
theorem Own.markAt{w T:World}{b n cap:Nat}{o:List Bool}(h:Own 4 1 fB T w (some ⟨b,0,none⟩) n cap o){k:Nat}(hk:k<n):w.cell? ⟨b,k,none⟩=some (.bool (nth false o k))∧w.frozen? ⟨b,k,none⟩=false∧b<w.heap.size∧T.heap.size≤b:=by
 obtain⟨_,cur,eqa,hT,hb,_⟩:=h.blk om0;cases eqa;obtain⟨_,_,eqa,hlt,hc⟩:=h.lay.some om0;cases eqa;have c:=a9g h.1 hc hk;rw[Nat.zero_add]at c;exact⟨c,j9 hb,hlt,hT⟩
theorem zo{α:Type}{F:α→World→Prop}{a:α}{w:World}(p:World→Prop)(hp:p w)(h:∀w',p w'→F a w'):F a w:=h w hp
def a8Q (g:Gr):Prop:=∀i,i<g.ks.length→∀x,x∈nth [] g.ks i→0≤x.1∧x.1.toNat<g.ks.length
theorem a6x{g:Gr}(h:a8Q g):∀i,i<g.ks.length→∀c,c∈kof g.ks i→c<g.ks.length:=by
 intro i hi c hc;obtain⟨x,hx,rfl⟩:=J4.1 hc;exact(h i hi x hx).2
theorem a5x{g:Gr}{i k:Nat}(hk:k<(nth [] g.ks i).length):nth 0 (kof g.ks i) k=(nth (0,0) (nth [] g.ks i) k).1.toNat:=ax1 (d:=((0,0):Int × Int)) (e:=0) (f:=fun h=>h.1.toNat) rfl (nth [] g.ks i) k
theorem az6(ks:List (List (Int × Int)))(i:Nat):(kof ks i).length=(nth [] ks i).length:=by simp[kof]
theorem aj7(ao:Option Addr)(n cap:Nat)(ko:Option Addr)(kn kcap:Nat)(hs:List RH)(g:Gr)(fr:Nat)(w:World)(hG:QL w ao n ko kn hs g)(hK:a8Q g)(hf:fr<kn):
  Calls Tryz.prog 158 #[.agg #[.slice ao n cap,.slice ko kn kcap],.int .i64 fr] w fun e w'=>∃b cap',e=.returned (.slice (some ⟨b,0,none⟩) kn cap')∧(∃y,w'=plus w y)∧Own 4 1 fB w w' (some ⟨b,0,none⟩) kn cap' (Z3 (kof g.ks) kn fr):=by
 have hlen:=hG.kl;have hkh:=hG.kh.len;have b3:=hG.n2;have hmk:=ar1 kn om0;have iF:(fr:Int)<(kn:Int):=om0;have hKl:=a6x hK;rw[hlen]at hKl;obtain⟨kg,kf,rfl,hkg,hkc⟩:=hG.kh.some om0;go_enter Tryz.func158,Tryz.ntmps158;go_upto_region 2 with fail;have o0:Own 4 1 fB (w.alloc (.cells #[.slice ao n cap,.slice (some ⟨kg,kf,none⟩) kn kcap] 27)) ((w.alloc (.cells #[.slice ao n cap,.slice (some ⟨kg,kf,none⟩) kn kcap] 27)).alloc (.cells ((List.replicate kn false).flatMap fB).toArray 4)) (some ⟨w.heap.size+1,0,none⟩) kn kn (List.replicate kn false):=Z9 (by simp) a8R (by rw[qe,if_pos (by simp)]) (by simp) (by unfold maxLen;omega);have hx0:∃y,(w.alloc (.cells #[.slice ao n cap,.slice (some ⟨kg,kf,none⟩) kn kcap] 27)).alloc (.cells ((List.replicate kn false).flatMap fB).toArray 4)=plus (w.alloc (.cells #[.slice ao n cap,.slice (some ⟨kg,kf,none⟩) kn kcap] 27)) y:=sk0;generalize (w.alloc (.cells #[.slice ao n cap,.slice (some ⟨kg,kf,none⟩) kn kcap] 27)).alloc (.cells ((List.replicate kn false).flatMap fB).toArray 4)=w1 at*;obtain⟨m0,m1,m2,m3⟩:=o0.markAt hf;go_upto_region 3 with fail;refine zo (fun w'=>(∃y,w'=plus (w.alloc (.cells #[.slice ao n cap,.slice (some ⟨kg,kf,none⟩) kn kcap] 27)) y)∧Own 4 1 fB (w.alloc (.cells #[.slice ao n cap,.slice (some ⟨kg,kf,none⟩) kn kcap] 27)) w' (some ⟨w.heap.size+1,0,none⟩) kn kn ((List.replicate kn false).set fr true)) ⟨qb hx0 m3,o0.mark fr hf⟩ ?_;rintro w2 ⟨hx2,o2⟩;clear o0 hx0 m0 m1 m2;have t0:(w.alloc (.cells #[.slice ao n cap,.slice (some ⟨kg,kf,none⟩) kn kcap] 27)).cell? ⟨w.heap.size,0,none⟩=some (.slice ao n cap):=by simp[go_sem]
 have t1:(w.alloc (.cells #[.slice ao n cap,.slice (some ⟨kg,kf,none⟩) kn kcap] 27)).cell? ⟨w.heap.size,1,none⟩=some (.slice (some ⟨kg,kf,none⟩) kn kcap):=by simp[go_sem]
 have hG':QL (w.alloc (.cells #[.slice ao n cap,.slice (some ⟨kg,kf,none⟩) kn kcap] 27)) ao n (some ⟨kg,kf,none⟩) kn hs g:=hG.ex sk0;have hTx:∃y,(w.alloc (.cells #[.slice ao n cap,.slice (some ⟨kg,kf,none⟩) kn kcap] 27))=plus w y:=sk0;have hTs:w.heap.size≤(w.alloc (.cells #[.slice ao n cap,.slice (some ⟨kg,kf,none⟩) kn kcap] 27)).heap.size:=by simp[go_sem]
 clear hG hkc;generalize (w.alloc (.cells #[.slice ao n cap,.slice (some ⟨kg,kf,none⟩) kn kcap] 27))=T at*;obtain⟨_,_,eqa,hkg',hkc⟩:=hG'.kh.some om0;cases eqa;have e1:=qf hx2 t1;go_wp2;go_loopw [6] (fun i wr=>∃r:Nat,r≤kn∧i=.int .i64 r∧(∃y,wr=plus T y)∧Own 4 1 fB T wr (some ⟨w.heap.size+1,0,none⟩) kn kn (rnd (kof g.ks) kn ((List.replicate kn false).set fr true) r)) (fun i _=>kn - (intOf i).toNat)
 case atStart=>exact⟨0,Nat.zero_le _,rfl,hx2,o2⟩
 case round=>
  clear e1 o2 hx2;obtain⟨r,hr,rfl,hx3,o3⟩:=hrel;have e1:=qf hx3 t1;by_cases hrl:r<kn;rotate_left
  ·have ir:¬(r:Int)<(kn:Int):=om0;obtain rfl:r=kn:=om0;go_wp2;go_ret;exact⟨_,_,rfl,ZM hx3 hTx,o3.base hTs⟩
  have ir:(r:Int)<(kn:Int):=om0;go_wp2;go_loopw [7] (fun i wr=>∃i':Nat,i'≤kn∧i=.int .i64 i'∧(∃y,wr=plus T y)∧Own 4 1 fB T wr (some ⟨w.heap.size+1,0,none⟩) kn kn (mid (kof g.ks) (rnd (kof g.ks) kn ((List.replicate kn false).set fr true) r) i')) (fun i _=>kn - (intOf i).toNat)
  case atStart=>exact⟨0,Nat.zero_le _,rfl,hx3,o3⟩
  case round=>
   clear e1 o3 hx3;obtain⟨i,hi,rfl,hx4,o4⟩:=hrel;have e1:=qf hx4 t1;by_cases hil:i<kn;rotate_left
   ·have ii:¬(i:Int)<(kn:Int):=om0;obtain rfl:i=kn:=om0;go_wp2;go_roundw
    case rel=>exact⟨r+1,om0,by go_num,hx4,o4⟩
    case measure=>simp[intOf];omega
   have ii:(i:Int)<(kn:Int):=om0;have c1:=O9 hkh hkc hil;have hrow:=hG'.row i om0;have hrl':=hrow.len;have hn3:=hG'.n3 i om0;go_wp2;go_loopw [8] (fun i_ wr=>∃k:Nat,k≤(nth dRH hs i).n∧i_=.int .i64 k∧(∃y,wr=plus T y)∧Own 4 1 fB T wr (some ⟨w.heap.size+1,0,none⟩) kn kn (inn (kof g.ks) (mid (kof g.ks) (rnd (kof g.ks) kn ((List.replicate kn false).set fr true) r) i) i k)) (fun i_ _=>(nth dRH hs i).n - (intOf i_).toNat)
   case atStart=>exact⟨0,Nat.zero_le _,rfl,hx4,o4⟩
   case round=>
    clear e1 o4 hx4;obtain⟨k,hk,rfl,hx5,o5⟩:=hrel;have e1:=qf hx5 t1;have e2:=qf hx5 c1;by_cases hkl:k<(nth dRH hs i).n;rotate_left
    ·have ik:¬(k:Int)<((nth dRH hs i).n:Int):=om0;obtain rfl:k=(nth dRH hs i).n:=om0;go_wp2;go_roundw
     case rel=>exact⟨i+1,om0,by go_num,hx5,by show Own _ _ _ _ _ _ _ _ (inn (kof g.ks) _ i (kof g.ks i).length);rw[az6,hrl'];exact o5⟩
     case measure=>simp[intOf];omega
    have ik:(k:Int)<((nth dRH hs i).n:Int):=om0;obtain⟨q0,q1,q2,q3⟩:=o5.markAt hil;have hsucc:=a6Z (K:=kof g.ks) (mid (kof g.ks) (rnd (kof g.ks) kn ((List.replicate kn false).set fr true) r) i) i k (by rw[az6,hrl'];exact hkl);obtain⟨rg,ro,hra,hrg,hrc⟩:=hrow.some om0;obtain⟨x0,x1⟩:=Y4 hrl' hrc hkl;have f0:=qf hx5 x0;rw[hra]at e2;have hmem:nth (0,0) (nth [] g.ks i) k∈nth [] g.ks i:=F3 om0;obtain⟨p0,p1⟩:=hK i om0 _ hmem;rw[hlen]at p1;rw[a5x om0]at hsucc;obtain⟨c,hcE⟩:∃c:Nat,(nth (0,0) (nth [] g.ks i) k).1=(c:Int):=⟨_,(Int.toNat_of_nonneg p0).symm⟩;rw[hcE]at f0 p1 hsucc;rw[Int.toNat_natCast]at p1 hsucc;have ic:(c:Int)<(kn:Int):=om0;cases hv:nth false (inn (kof g.ks) (mid (kof g.ks) (rnd (kof g.ks) kn ((List.replicate kn false).set fr true) r) i) i k) i
    ·rw[hv]at q0;rw[stp,hv,if_neg dc0]at hsucc;go_wp2;go_roundw
     case rel=>exact⟨k+1,om0,by go_num,hx5,by rw[hsucc];exact o5⟩
     case measure=>simp[intOf];omega
    ·rw[hv]at q0;rw[stp,hv,if_pos rfl]at hsucc;obtain⟨u0,u1,u2,u3⟩:=o5.markAt p1;go_wp2;go_roundw
     case rel=>exact⟨k+1,om0,by go_num,qb hx5 q3,by rw[hsucc];exact o5.mark c p1⟩
     case measure=>simp[intOf];omega
end
section
theorem a4A:∀{o:List Bool} {k:Nat},k<o.length→nth false o k=false→cnt (o.set k true)=cnt o+1
 |[],k,h,_=>by simp at h
 |a::o,0,_,h=>by
  rw[K8]at h;subst h;simp[cnt]
 |a::o,k+1,h,h2=>by
  rw[G9]at h2;have:=a4A (o:=o) (k:=k) (by simpa using h) h2;unfold cnt at*;rw[List.set_cons_succ,List.countP_cons,List.countP_cons,this];omega
def a2c (o:List Bool) (cs:List Nat) (k:Nat):Bool:=(cs.take k).all fun c=>nth false o c
theorem a3u{o:List Bool}{cs:List Nat}{k:Nat}(hk:k<cs.length):a2c o cs (k+1)=(a2c o cs k&&nth false o (nth 0 cs k)):=by
 unfold a2c;rw[P1 (d:=0) hk,List.all_append];simp
theorem a4P(o:List Bool)(cs:List Nat):a2c o cs cs.length=cs.all fun c=>nth false o c:=by
 unfold a2c;rw[List.take_length]
theorem a2y(ao:Option Addr)(n cap:Nat)(ko:Option Addr)(kn kcap:Nat)(hs:List RH)(g:Gr)(w:World)(hG:QL w ao n ko kn hs g)(hK:a8Q g):
  Calls Tryz.prog 141 #[.agg #[.slice ao n cap,.slice ko kn kcap]] w fun e w'=>e=.returned (.bool (Zh g))∧Below w.heap.size w w':=by
 have hlen:=hG.kl;have hkh:=hG.kh.len;have b3:=hG.n2;have hmk:=ar1 kn om0;have hLB:Zh g=decide (cnt (QA (kof g.ks) kn)=kn):=by rw[Zh,hlen]
 go_enter Tryz.func141,Tryz.ntmps141;go_upto_region 2 with fail;have o0:Own 4 1 fB (w.alloc (.cells #[.slice ao n cap,.slice ko kn kcap] 27)) ((w.alloc (.cells #[.slice ao n cap,.slice ko kn kcap] 27)).alloc (.cells ((List.replicate kn false).flatMap fB).toArray 4)) (some ⟨w.heap.size+1,0,none⟩) kn kn (List.replicate kn false):=Z9 (by simp) a8R (by rw[qe,if_pos (by simp)]) (by simp) (by unfold maxLen;omega);have hx0:∃y,(w.alloc (.cells #[.slice ao n cap,.slice ko kn kcap] 27)).alloc (.cells ((List.replicate kn false).flatMap fB).toArray 4)=plus (w.alloc (.cells #[.slice ao n cap,.slice ko kn kcap] 27)) y:=sk0;generalize (w.alloc (.cells #[.slice ao n cap,.slice ko kn kcap] 27)).alloc (.cells ((List.replicate kn false).flatMap fB).toArray 4)=w1 at*;have t1:(w.alloc (.cells #[.slice ao n cap,.slice ko kn kcap] 27)).cell? ⟨w.heap.size,1,none⟩=some (.slice ko kn kcap):=by simp[go_sem]
 have hG':QL (w.alloc (.cells #[.slice ao n cap,.slice ko kn kcap] 27)) ao n ko kn hs g:=hG.ex sk0;have hTx:∃y,(w.alloc (.cells #[.slice ao n cap,.slice ko kn kcap] 27))=plus w y:=sk0;clear hG;generalize (w.alloc (.cells #[.slice ao n cap,.slice ko kn kcap] 27))=T at*;have e1:=qf hx0 t1;go_wp2;go_loopw [4,5] (fun m i wr=>∃r:Nat,r≤kn∧m=.int .i64 (cnt (aa5 (kof g.ks) kn (List.replicate kn false) r))∧i=.int .i64 r∧(∃y,wr=plus T y)∧Own 4 1 fB T wr (some ⟨w.heap.size+1,0,none⟩) kn kn (aa5 (kof g.ks) kn (List.replicate kn false) r)) (fun _ i _=>kn - (intOf i).toNat)
 case atStart=>exact⟨0,Nat.zero_le _,by(show _=Value.int .i64 ((cnt (List.replicate kn false):Nat):Int));rw[show cnt (List.replicate kn false)=0 by simp[cnt]];rfl,rfl,hx0,o0⟩
 case round=>
  clear e1 o0 hx0;obtain⟨r,hr,rfl,rfl,hx3,o3⟩:=hrel;have e1:=qf hx3 t1;by_cases hrl:r<kn;rotate_left
  ·have ir:¬(r:Int)<(kn:Int):=om0;obtain rfl:r=kn:=om0;by_cases hc:cnt (QA (kof g.ks) r)=r
   ·have dc:((cnt (aa5 (kof g.ks) r (List.replicate r false) r):Int)==(r:Int))=true:=by rw[beq_iff_eq];exact congrArg _ hc
    go_wp2;go_ret;exact⟨by first|rfl|(rw[hLB,decide_eq_true hc];rfl),B5 (ZM hx3 hTx)⟩
   ·have dc:((cnt (aa5 (kof g.ks) r (List.replicate r false) r):Int)==(r:Int))=false:=by
     rw[beq_eq_false_iff_ne];intro e;exact hc (Int.ofNat_inj.1 e)
    go_wp2;go_ret;exact⟨by first|rfl|(rw[hLB,decide_eq_false hc];rfl),B5 (ZM hx3 hTx)⟩
  have ir:(r:Int)<(kn:Int):=om0;obtain⟨kg,kf,rfl,hkg,hkc⟩:=hG'.kh.some om0;go_wp2;go_loopw [4,6] (fun m i_ wr=>∃i:Nat,i≤kn∧m=.int .i64 (cnt (Z7 (kof g.ks) (aa5 (kof g.ks) kn (List.replicate kn false) r) i))∧i_=.int .i64 i∧(∃y,wr=plus T y)∧Own 4 1 fB T wr (some ⟨w.heap.size+1,0,none⟩) kn kn (Z7 (kof g.ks) (aa5 (kof g.ks) kn (List.replicate kn false) r) i)) (fun _ i _=>kn - (intOf i).toNat)
  case atStart=>exact⟨0,Nat.zero_le _,rfl,rfl,hx3,o3⟩
  case round=>
   clear e1 o3 hx3;obtain⟨i,hi,rfl,rfl,hx4,o4⟩:=hrel;have e1:=qf hx4 t1;by_cases hil:i<kn;rotate_left
   ·have ii:¬(i:Int)<(kn:Int):=om0;obtain rfl:i=kn:=om0;go_wp2;go_roundw
    case rel=>exact⟨r+1,om0,rfl,by go_num,hx4,o4⟩
    case measure=>simp[intOf];omega
   have ii:(i:Int)<(kn:Int):=om0;have c1:=O9 hkh hkc hil;have hrow:=hG'.row i om0;have hrl':=hrow.len;have hn3:=hG'.n3 i om0;have e2:=qf hx4 c1;obtain⟨q0,q1,q2,q3⟩:=o4.markAt hil;go_wp2;go_loopw [7,8] (fun b i_ wz=>∃k:Nat,k≤(nth dRH hs i).n∧b=.bool (a2c (Z7 (kof g.ks) (aa5 (kof g.ks) kn (List.replicate kn false) r) i) (kof g.ks i) k)∧i_=.int .i64 k∧wz=wr) (fun _ i_ _=>(nth dRH hs i).n - (intOf i_).toNat)
   case atStart=>exact⟨0,Nat.zero_le _,rfl,rfl,rfl⟩
   case round=>
    obtain⟨k,hk,rfl,rfl,rfl⟩:=hrel;by_cases hkl:k<(nth dRH hs i).n;rotate_left
    ·have ik:¬(k:Int)<((nth dRH hs i).n:Int):=om0;obtain rfl:k=(nth dRH hs i).n:=om0;have hall:=a4P (Z7 (kof g.ks) (aa5 (kof g.ks) kn (List.replicate kn false) r) i) (kof g.ks i);rw[az6,hrl']at hall;have hmid:Z7 (kof g.ks) (aa5 (kof g.ks) kn (List.replicate kn false) r) (i+1)=a3a (kof g.ks) (Z7 (kof g.ks) (aa5 (kof g.ks) kn (List.replicate kn false) r) i) i:=rfl;cases ha:a2c (Z7 (kof g.ks) (aa5 (kof g.ks) kn (List.replicate kn false) r) i) (kof g.ks i) (nth dRH hs i).n
     ·have hst:a3a (kof g.ks) (Z7 (kof g.ks) (aa5 (kof g.ks) kn (List.replicate kn false) r) i) i=(Z7 (kof g.ks) (aa5 (kof g.ks) kn (List.replicate kn false) r) i):=by rw[a3a,←hall,ha];rfl
      go_wp2;go_roundw
      case rel=>exact⟨i+1,om0,by rw[hmid,hst],by go_num,hx4,by rw[hmid,hst];exact o4⟩
      case measure=>simp[intOf];omega
     cases hv:nth false (Z7 (kof g.ks) (aa5 (kof g.ks) kn (List.replicate kn false) r) i) i;rotate_left
     ·have hst:a3a (kof g.ks) (Z7 (kof g.ks) (aa5 (kof g.ks) kn (List.replicate kn false) r) i) i=(Z7 (kof g.ks) (aa5 (kof g.ks) kn (List.replicate kn false) r) i):=by rw[a3a,←hall,ha,hv];rfl
      rw[hv]at q0;go_wp2;go_roundw
      case rel=>exact⟨i+1,om0,by rw[hmid,hst],by go_num,hx4,by rw[hmid,hst];exact o4⟩
      case measure=>simp[intOf];omega
     ·have hst:a3a (kof g.ks) (Z7 (kof g.ks) (aa5 (kof g.ks) kn (List.replicate kn false) r) i) i=(Z7 (kof g.ks) (aa5 (kof g.ks) kn (List.replicate kn false) r) i).set i true:=by rw[a3a,←hall,ha,hv];rfl
      rw[hv]at q0;have hcs:=a4A (o:=(Z7 (kof g.ks) (aa5 (kof g.ks) kn (List.replicate kn false) r) i)) (k:=i) (by rw[o4.1];exact hil) hv;have hcl:=ax2 (Z7 (kof g.ks) (aa5 (kof g.ks) kn (List.replicate kn false) r) i);rw[o4.1]at hcl;have iwc:IntKind.i64.wrap ((cnt (Z7 (kof g.ks) (aa5 (kof g.ks) kn (List.replicate kn false) r) i):Int)+1)=(cnt (Z7 (kof g.ks) (aa5 (kof g.ks) kn (List.replicate kn false) r) i):Int)+1:=L5 om0;go_wp2;go_roundw
      case rel=>exact⟨i+1,om0,by rw[hmid,hst,hcs];go_num,by go_num,qb hx4 q3,by rw[hmid,hst];exact o4.mark i hil⟩
      case measure=>simp[intOf];omega
    have ik:(k:Int)<((nth dRH hs i).n:Int):=om0;obtain⟨rg,ro,hra,hrg,hrc⟩:=hrow.some om0;obtain⟨x0,x1⟩:=Y4 hrl' hrc hkl;have f0:=qf hx4 x0;rw[hra]at e2;have hmem:nth (0,0) (nth [] g.ks i) k∈nth [] g.ks i:=F3 om0;obtain⟨p0,p1⟩:=hK i om0 _ hmem;rw[hlen]at p1;have hsucc:=a3u (o:=(Z7 (kof g.ks) (aa5 (kof g.ks) kn (List.replicate kn false) r) i)) (cs:=kof g.ks i) (k:=k) (by rw[az6,hrl'];exact hkl);rw[a5x om0]at hsucc;obtain⟨c,hcE⟩:∃c:Nat,(nth (0,0) (nth [] g.ks i) k).1=(c:Int):=⟨_,(Int.toNat_of_nonneg p0).symm⟩;rw[hcE]at f0 p1 hsucc;rw[Int.toNat_natCast]at p1 hsucc;have ic:(c:Int)<(kn:Int):=om0;obtain⟨u0,u1,u2,u3⟩:=o4.markAt p1;cases hv:nth false (Z7 (kof g.ks) (aa5 (kof g.ks) kn (List.replicate kn false) r) i) c
    ·rw[hv]at u0;rw[hv,Bool.and_false]at hsucc;go_wp2;go_roundw
     case rel=>exact⟨k+1,om0,by rw[hsucc],by go_num,by first|rfl|trivial⟩
     case measure=>simp[intOf];omega
    ·rw[hv]at u0;rw[hv,Bool.and_true]at hsucc;go_wp2;go_roundw
     case rel=>exact⟨k+1,om0,by rw[hsucc],by go_num,by first|rfl|trivial⟩
     case measure=>simp[intOf];omega
end
section
theorem af8{g:Gr}{i:Nat}(hi:i<g.ks.length)(h:T3 g.sl i (nth [] g.ks i)=false):E8 g=false:=by
 cases hv:E8 g with
 |false=>rfl
 |true=>
  have:=List.all_eq_true.1 hv i (List.mem_range.2 hi);rw[h]at this;cases this
theorem a3g{g:Gr}(h:∀i,i<g.ks.length→T3 g.sl i (nth [] g.ks i)=true):E8 g=true:=List.all_eq_true.2 fun i hi=>h i (List.mem_range.1 hi)
theorem a18{g:Gr}(h2:g.ks.length=g.sl.length)(h3:E8 g=true):a8Q g:=by
 intro i hi x hx;have:=A8 ((Qk h3 hi).2.2 x hx);omega
theorem Zw{ao:Option Addr}{n cap:Nat}{l:List Sl}{s g:Int}{w:World}{b:Bool}(h:qG l s g=b)(hl:Lay fS w ao n l)(hn:n≤1000):
  Calls Tryz.prog 140 #[.agg #[.slice ao n cap],.agg #[.int .i64 s,.int .i64 g]] w fun e w'=>e=.returned (.bool b)∧Below w.heap.size w w':=by
 subst h;exact ZK ao n cap l s g w hl om0
theorem G1(ao:Option Addr)(n cap:Nat)(ko:Option Addr)(kn kcap:Nat)(hs:List RH)(g:Gr)(w:World)(hG:QL w ao n ko kn hs g):
  Calls Tryz.prog 88 #[.agg #[.slice ao n cap,.slice ko kn kcap]] w fun e w'=>e=.returned (.bool (QV g))∧Below w.heap.size w w':=by
 have hlen:=hG.kl;have hkh:=hG.kh.len;have hsl:=hG.sl.len;have b1:=hG.n1;have b3:=hG.n2;cases hO:S5 g.sl
 ·rw[show QV g=false by rw[QV,hO];rfl];go_enter Tryz.func88,Tryz.ntmps88;go_wp2_with (go_at_call 139;refine pm0 (M7 _ _ _ g.sl _ (hG.sl.ex sk0) om0) fun nx=>?_;rw[hO]);go_ret;exact⟨rfl,skB⟩
 by_cases hne:kn=n;rotate_left
 ·rw[show QV g=false by rw[QV,decide_eq_false (show¬g.ks.length=g.sl.length by omega),Bool.and_false,Bool.false_and]];have ine:¬(kn:Int)=(n:Int):=om0;have dne:((kn:Int)==(n:Int))=false:=by rw[beq_eq_false_iff_ne];omega
  go_enter Tryz.func88,Tryz.ntmps88;go_wp2_with (go_at_call 139;refine pm0 (M7 _ _ _ g.sl _ (hG.sl.ex sk0) om0) fun nx=>?_;rw[hO]);go_ret;exact⟨rfl,skB⟩
 subst hne;have hle:g.ks.length=g.sl.length:=om0;rw[show QV g=(E8 g&&Zh g)by rw[QV,hO,decide_eq_true hle];rfl];go_enter Tryz.func88,Tryz.ntmps88;go_wp2_with (go_at_call 139;refine pm0 (M7 _ _ _ g.sl _ (hG.sl.ex sk0) om0) fun nx=>?_;rw[hO]);go_loopw [3] (fun i_ wr=>∃i:Nat,i≤kn∧i_=.int .i64 i∧(∀j,j<i→T3 g.sl j (nth [] g.ks j)=true)∧∃x,wr=plus (plus (w.alloc (.cells #[.slice ao kn cap,.slice ko kn kcap] 27)) nx) x) (fun i _=>kn - (intOf i).toNat)
 case atStart=>exact⟨0,Nat.zero_le _,rfl,fun j hj=>om0,sk0⟩
 case round=>
  obtain⟨i,hi,rfl,hrows,x,rfl⟩:=hrel;by_cases hil:i<kn;rotate_left
  ·have ii:¬(i:Int)<(kn:Int):=om0;have hR:E8 g=true:=a3g fun j hj=>hrows j om0
   go_wp2_with (go_at_call 141;refine(A4 (a2y _ _ _ _ _ _ hs g _ (hG.ex sk0) (a18 hle hR))).mono ?_;rintro e w' ⟨rfl,nl,rfl⟩);go_ret;exact⟨by first|rfl|(rw[hR,Bool.true_and];rfl),skB⟩
  have ii:(i:Int)<(kn:Int):=om0;obtain⟨kg,kf,rfl,hkg,hkc⟩:=hG.kh.some om0;obtain⟨sg,sf,rfl,hsg,hsc⟩:=hG.sl.some om0;have c1:=O9 hkh hkc hil;obtain⟨v0,v1⟩:=Y3 hsl hsc hil;have hrow:=hG.row i om0;have hrl:=hrow.len;have hn3:=hG.n3 i om0;by_cases h16:16<(nth dRH hs i).n
  ·have i16:(16:Int)<((nth dRH hs i).n:Int):=om0;have hno:E8 g=false:=af8 (i:=i) om0 (by rw[T3,decide_eq_false om0,Bool.false_and]);go_wp2;go_ret;exact⟨by first|rfl|(rw[hno,Bool.false_and];rfl),skB⟩
  have i16:¬(16:Int)<((nth dRH hs i).n:Int):=om0;have d16:=decide_eq_false i16;have hcond:(nth dRH hs i).n=0∨(nth dSl g.sl i).live=true∨((nth dSl g.sl i).live=false∧0<(nth dRH hs i).n):=by
   by_cases h0:(nth dRH hs i).n=0
   ·exact .inl h0
   ·cases hv:(nth dSl g.sl i).live
    ·exact .inr (.inr ⟨rfl,om0⟩)
    ·exact .inr (.inl rfl)
  rcases hcond with h0|hv|⟨hv,h0⟩
  rotate_right
  ·rw[hv]at v1;have i0:(0:Int)<((nth dRH hs i).n:Int):=om0;have hno:E8 g=false:=af8 (i:=i) om0 (by rw[T3,hv,decide_eq_false (show¬(nth [] g.ks i).length=0 by omega)];simp);go_wp2;go_ret;exact⟨by first|rfl|(rw[hno,Bool.false_and];rfl),skB⟩
  ·have i0:¬(0:Int)<((nth dRH hs i).n:Int):=om0;have d0:decide (0<(nth dRH hs i).n)=false:=decide_eq_false om0;have ik:¬(0:Int)<((nth dRH hs i).n:Int):=i0;have hok:T3 g.sl i (nth [] g.ks i)=true:=by
    have e:nth [] g.ks i=[]:=List.eq_nil_of_length_eq_zero om0;rw[e];rfl
   clear h0;go_wp2;go_loopw [4] (fun k_ wz=>∃k:Nat,k≤(nth dRH hs i).n∧k_=.int .i64 k∧(∀j,j<k→qG g.sl (nth (0,0) (nth [] g.ks i) j).1 (nth (0,0) (nth [] g.ks i) j).2=true)∧∃y,wz=plus (plus (plus (w.alloc (.cells #[.slice (some ⟨sg,sf,none⟩) kn cap,.slice (some ⟨kg,kf,none⟩) kn kcap] 27)) nx) x) y) (fun k_ _=>(nth dRH hs i).n - (intOf k_).toNat)
   case atStart=>exact⟨0,Nat.zero_le _,rfl,fun j hj=>om0,sk0⟩
   case round=>
    obtain⟨k,hk,rfl,hh,y,rfl⟩:=hrel;obtain rfl:k=0:=om0;have ikk:¬((0:Nat):Int)<((nth dRH hs i).n:Int):=om0;go_wp2;go_roundw
    case rel=>exact⟨i+1,om0,by go_num,B0 hrows hok,sk0⟩
    case measure=>simp[intOf];omega
  ·rw[hv]at v1;have hpre:T3 g.sl i (nth [] g.ks i)=(nth [] g.ks i).all fun h=>qG g.sl h.1 h.2:=by
    rw[T3,hv,decide_eq_true (show(nth [] g.ks i).length≤16 by omega),Bool.or_true,Bool.true_and,Bool.true_and]
   by_cases hz:0<(nth dRH hs i).n
   ·have i0:(0:Int)<((nth dRH hs i).n:Int):=om0;have d0:decide (0<(nth dRH hs i).n)=true:=decide_eq_true hz;go_wp2;go_loopw [4] (fun k_ wz=>∃k:Nat,k≤(nth dRH hs i).n∧k_=.int .i64 k∧(∀j,j<k→qG g.sl (nth (0,0) (nth [] g.ks i) j).1 (nth (0,0) (nth [] g.ks i) j).2=true)∧∃y,wz=plus (plus (plus (w.alloc (.cells #[.slice (some ⟨sg,sf,none⟩) kn cap,.slice (some ⟨kg,kf,none⟩) kn kcap] 27)) nx) x) y) (fun k_ _=>(nth dRH hs i).n - (intOf k_).toNat)
    case atStart=>exact⟨0,Nat.zero_le _,rfl,fun j hj=>om0,sk0⟩
    case round=>
     obtain⟨k,hk,rfl,hh,y,rfl⟩:=hrel;by_cases hkl:k<(nth dRH hs i).n;rotate_left
     ·have ikk:¬(k:Int)<((nth dRH hs i).n:Int):=om0;have hok:T3 g.sl i (nth [] g.ks i)=true:=by
       rw[hpre];exact K5 (d:=((0,0):Int × Int)) (fun j hj=>hh j om0)
      go_wp2;go_roundw
      case rel=>exact⟨i+1,om0,by go_num,B0 hrows hok,sk0⟩
      case measure=>simp[intOf];omega
     have ikk:(k:Int)<((nth dRH hs i).n:Int):=om0;obtain⟨rg,ro,hra,hrg,hrc⟩:=hrow.some om0;obtain⟨x0,x1⟩:=Y4 hrl hrc hkl;rw[hra]at c1;cases hq:qG g.sl (nth (0,0) (nth [] g.ks i) k).1 (nth (0,0) (nth [] g.ks i) k).2
     ·have hno:E8 g=false:=af8 (i:=i) om0 (by rw[hpre];exact C1 (d:=((0,0):Int × Int)) (k:=k) om0 hq);go_wp2;refine qg kr0 kr0 ?_
      (repeat(go_big_quiet_step ((go_at_call 140;exact C8 (Zw hq (hG.sl.ex sk0) om0)))))
      refine wpQuiet_nil ?_;rintro _ ⟨x2,rfl⟩;go_wp2;go_ret;exact⟨by first|rfl|(rw[hno,Bool.false_and];rfl),skB⟩
     ·go_wp2;refine qg kr0 kr0 ?_
      (repeat(go_big_quiet_step ((go_at_call 140;exact C8 (Zw hq (hG.sl.ex sk0) om0)))))
      refine wpQuiet_nil ?_;rintro _ ⟨x2,rfl⟩;go_wp2;go_roundw
      case rel=>exact⟨k+1,om0,by go_num,B0 hh hq,sk0⟩
      case measure=>simp[intOf];omega
   ·have i0:¬(0:Int)<((nth dRH hs i).n:Int):=om0;have d0:decide (0<(nth dRH hs i).n)=false:=decide_eq_false hz;have hok:T3 g.sl i (nth [] g.ks i)=true:=by
     have e:nth [] g.ks i=[]:=List.eq_nil_of_length_eq_zero om0;rw[hpre,e];rfl
    go_wp2;go_loopw [4] (fun k_ wz=>∃k:Nat,k≤(nth dRH hs i).n∧k_=.int .i64 k∧(∀j,j<k→qG g.sl (nth (0,0) (nth [] g.ks i) j).1 (nth (0,0) (nth [] g.ks i) j).2=true)∧∃y,wz=plus (plus (plus (w.alloc (.cells #[.slice (some ⟨sg,sf,none⟩) kn cap,.slice (some ⟨kg,kf,none⟩) kn kcap] 27)) nx) x) y) (fun k_ _=>(nth dRH hs i).n - (intOf k_).toNat)
    case atStart=>exact⟨0,Nat.zero_le _,rfl,fun j hj=>om0,sk0⟩
    case round=>
     obtain⟨k,hk,rfl,hh,y,rfl⟩:=hrel;obtain rfl:k=0:=om0;have ikk:¬((0:Nat):Int)<((nth dRH hs i).n:Int):=om0;go_wp2;go_roundw
     case rel=>exact⟨i+1,om0,by go_num,B0 hrows hok,sk0⟩
     case measure=>simp[intOf];omega
theorem a15(ao:Option Addr)(n cap:Nat)(ko:Option Addr)(kn kcap:Nat)(hs:List RH)(g:Gr)(h1 h2 i1 i2:Int)(w:World)(hG:QL w ao n ko kn hs g):
  Calls Tryz.prog 157 #[.agg #[.slice ao n cap,.slice ko kn kcap],.agg #[.int .i64 h1,.int .i64 h2],.agg #[.int .i64 i1,.int .i64 i2]] w fun e w'=>e=.returned (.int .i64 (zH g (h1,h2) (i1,i2)))∧Below w.heap.size w w':=by
 have b1:=hG.n1;cases hO:QV g
 ·rw[show zH g (h1,h2) (i1,i2)=8 by rw[zH,hO];rfl];go_enter Tryz.func157,Tryz.ntmps157;go_wp2_with (go_at_call 88;refine pm0 (G1 _ _ _ _ _ _ hs g _ (hG.ex sk0)) fun nx=>?_;rw[hO]);go_ret;exact⟨rfl,skB⟩
 cases hA:qG g.sl h1 h2
 ·rw[show zH g (h1,h2) (i1,i2)=50 by rw[zH,hO,if_pos rfl,if_neg (by rw[hA];simp)]];go_enter Tryz.func157,Tryz.ntmps157;go_wp2_with (first|(go_at_call 88;refine pm0 (G1 _ _ _ _ _ _ hs g _ (hG.ex sk0)) fun nx=>?_;rw[hO])|(go_at_call 140;refine pm0 (Zw (by first|exact hA|exact hB) (hG.sl.ex sk0) om0) fun nx=>?_));go_ret;exact⟨rfl,skB⟩
 cases hB:qG g.sl i1 i2
 ·rw[show zH g (h1,h2) (i1,i2)=50 by rw[zH,hO,if_pos rfl,if_neg (by rw[hB];simp)]];go_enter Tryz.func157,Tryz.ntmps157;go_wp2_with (first|(go_at_call 88;refine pm0 (G1 _ _ _ _ _ _ hs g _ (hG.ex sk0)) fun nx=>?_;rw[hO])|(go_at_call 140;refine pm0 (Zw (by first|exact hA|exact hB) (hG.sl.ex sk0) om0) fun nx=>?_));go_ret;exact⟨rfl,skB⟩
 ·rw[show zH g (h1,h2) (i1,i2)=0 by rw[zH,hO,if_pos rfl,if_pos ⟨hA,hB⟩]];go_enter Tryz.func157,Tryz.ntmps157;go_wp2_with (first|(go_at_call 88;refine pm0 (G1 _ _ _ _ _ _ hs g _ (hG.ex sk0)) fun nx=>?_;rw[hO])|(go_at_call 140;refine pm0 (Zw (by first|exact hA|exact hB) (hG.sl.ex sk0) om0) fun nx=>?_));go_ret;exact⟨rfl,skB⟩
end
end Go.Proofs.YtcekcihijdipoaaGreat
