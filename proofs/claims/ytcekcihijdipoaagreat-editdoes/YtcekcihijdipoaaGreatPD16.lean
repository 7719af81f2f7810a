/- A pack of texts: EdOwn, EdEqN, EdEqM, EdEqT, Arena6, Arena7, Arena8. -/
import Derived.Test.YtcekcihijdipoaaGreatPD14
import Derived.Test.YtcekcihijdipoaaGreatPD15
namespace Go.Proofs.YtcekcihijdipoaaGreat
set_option maxRecDepth 100000
set_option maxHeartbeats 16000000
section
open Go.RowKit
def PsB (m:Ms):Prop:=∀k,k<m.ps.length→0≤(nth dPr m.ps k).kind∧(nth dPr m.ps k).kind≤255
def aB9 (l:List Cl):Prop:=∀k,k<l.length→ClB (nth cl0 l k)
def al2 (n:Nd):Prop:=n.far.length≤10000
def a3y (m:Ms):Prop:=m.vs.length≤1000∧m.uv.length≤1000∧m.ps.length≤100∧∀k,k<m.ps.length→(nth dPr m.ps k).ix.length≤1000
def aa2 (t:Tp):Prop:=t.l.length≤20000
structure a3N (s:Sc):Prop where
 sl:s.g.sl.length≤1000
 ks:s.g.ks.length≤1000
 row:∀k,k<s.g.ks.length→(nth [] s.g.ks k).length≤1000
 nn:s.ns.length≤1000
 mn:s.ms.length≤1000
 tn:s.ts.length≤1000
 ns:∀k,k<s.ns.length→al2 (nth nd0 s.ns k)
 ms:∀k,k<s.ms.length→a3y (nth ms0 s.ms k)
 ts:∀k,k<s.ts.length→aa2 (nth tp0 s.ts k)
structure D0 (T w:World) (h:TH) (t:Tp):Prop where
 we:h.w=t.w
 he:h.h=t.h
 tx:Own 50 4 fCl T w h.ao h.n h.cap t.l
 ok:aB9 t.l
structure zZ (T w:World) (h:MH) (hs:List PH) (m:Ms):Prop where
 t:X5 T w h hs m
 b:PsB m
section
variable {T T' w w':World} {g:Nat} {cur cs:Array Value} {e':TypeId}
theorem D0.ex{h:TH}{t:Tp}(a:D0 T w h t)(hw:∃y,w'=plus w y):D0 T w' h t:=⟨a.we,a.he,a.tx.ex hw,a.ok⟩
theorem D0.base{h:TH}{t:Tp}(a:D0 T w h t)(hT:T'.heap.size≤T.heap.size):D0 T' w h t:=⟨a.we,a.he,a.tx.base hT,a.ok⟩
theorem D0.row_other{h:TH}{t:Tp}(a:D0 T w h t)(hb:w.heap[g]?=some (.cells cur e'))(he:e'≠50):D0 T (w.setRow g cs) h t:=⟨a.we,a.he,a.tx.row_other hb he,a.ok⟩
theorem X5.ex{h:MH}{hs:List PH}{m:Ms}(a:X5 T w h hs m)(hw:∃y,w'=plus w y):X5 T w' h hs m:=⟨a.v.ex hw,a.u.ex hw,a.p.ex hw,a.len,a.kind,fun k hk=>(a.ix k hk).ex hw⟩
theorem X5.base{h:MH}{hs:List PH}{m:Ms}(a:X5 T w h hs m)(hT:T'.heap.size≤T.heap.size):X5 T' w h hs m:=⟨a.v.base hT,a.u.base hT,a.p.base hT,a.len,a.kind,fun k hk=>(a.ix k hk).base hT⟩
theorem X5.row_other{h:MH}{hs:List PH}{m:Ms}(a:X5 T w h hs m)(hb:w.heap[g]?=some (.cells cur e'))(h1:e'≠43)(h2:e'≠137)(h3:e'≠131)(h4:e'≠3):X5 T (w.setRow g cs) h hs m:=
 ⟨a.v.row_other hb h1,a.u.row_other hb h2,a.p.row_other hb h3,a.len,a.kind,fun k hk=>(a.ix k hk).row_other hb h4⟩
theorem zZ.ex{h:MH}{hs:List PH}{m:Ms}(a:zZ T w h hs m)(hw:∃y,w'=plus w y):zZ T w' h hs m:=⟨a.t.ex hw,a.b⟩
theorem zZ.base{h:MH}{hs:List PH}{m:Ms}(a:zZ T w h hs m)(hT:T'.heap.size≤T.heap.size):zZ T' w h hs m:=⟨a.t.base hT,a.b⟩
theorem zZ.row_other{h:MH}{hs:List PH}{m:Ms}(a:zZ T w h hs m)(hb:w.heap[g]?=some (.cells cur e'))(h1:e'≠43)(h2:e'≠137)(h3:e'≠131)(h4:e'≠3):zZ T (w.setRow g cs) h hs m:=⟨a.t.row_other hb h1 h2 h3 h4,a.b⟩
theorem zV.row_other{h:NH}{n:Nd}(a:zV T w h n)(hb:w.heap[g]?=some (.cells cur e'))(he:e'≠3):zV T (w.setRow g cs) h n:=⟨a.f,a.b,a.far.row_other hb he⟩
theorem zV.at{h:NH}{n:Nd}(a:zV T w h n)(hf:al2 n):G0 w h n:=by
 have:=a.far.1;unfold al2 at hf;exact⟨a.f,a.b,om0,a.far.cap_le,a.far.none_zero,a.far.lay⟩
theorem zZ.at{h:MH}{hs:List PH}{m:Ms}(a:zZ T w h hs m)(hf:a3y m):I6 w h hs m:=by
 have h1:=a.t.v.1;have h2:=a.t.u.1;have h3:=a.t.p.1;have h4:=a.t.len;obtain⟨f1,f2,f3,f4⟩:=hf;refine⟨om0,om0,om0,a.t.v.none_zero,a.t.u.none_zero,a.t.p.none_zero,a.t.v.lay,a.t.u.lay,a.t.p.lay,a.t.len,fun k hk=>?_⟩;have h5:=(a.t.ix k hk).1;have h6:=f4 k om0;have h7:=a.b k om0;exact⟨a.t.kind k hk,h7.1,h7.2,om0,(a.t.ix k hk).none_zero,(a.t.ix k hk).lay⟩
theorem D0.at{h:TH}{t:Tp}(a:D0 T w h t)(hf:aa2 t):ak5 w h t:=by
 have:=a.tx.1;unfold aa2 at hf;exact⟨a.we,a.he,⟨om0,a.tx.none_zero,a.tx.lay,fun k hk=>a.ok k om0⟩⟩
end
structure zi (T w:World) (h:SH) (x:SX) (s:Sc):Prop where
 g:zS T w h.ga h.gn h.gc h.ka h.kn h.kc x.gr s.g
 nl:Own 56 33 fN T w h.na h.nn h.nc x.nh
 nlen:x.nh.length=s.ns.length
 ns:∀k,k<x.nh.length→zV T w (nth nh0 x.nh k) (nth nd0 s.ns k)
 ml:Own 61 3 fMh T w h.ma h.mn h.mc x.mh
 mlen:x.mh.length=s.ms.length
 ms:∀k,k<x.mh.length→zZ T w (nth mh0 x.mh k) (nth [] x.ph k) (nth ms0 s.ms k)
 tl:Own 64 3 fTh T w h.ta h.tn h.tc x.th
 tlen:x.th.length=s.ts.length
 ts:∀k,k<x.th.length→D0 T w (nth th0 x.th k) (nth tp0 s.ts k)
 root:s.root=(h.r0,h.r1)
 pl:x.ph.length=x.mh.length
structure Zu (w:World) (h:SH) (x:SX) (s:Sc):Prop where
 g:QL w h.ga h.gn h.ka h.kn x.gr s.g
 r:QK w h x s
 f:a3N s
section
variable {T T' w w':World} {h:SH} {x:SX} {s:Sc}
theorem zi.ex(a:zi T w h x s)(hw:∃y,w'=plus w y):zi T w' h x s:=
 ⟨a.g.ex hw,a.nl.ex hw,a.nlen,fun k hk=>(a.ns k hk).ex hw,a.ml.ex hw,a.mlen,fun k hk=>(a.ms k hk).ex hw,a.tl.ex hw,a.tlen,fun k hk=>(a.ts k hk).ex hw,a.root,a.pl⟩
theorem zi.base(a:zi T w h x s)(hT:T'.heap.size≤T.heap.size):zi T' w h x s:=
 ⟨a.g.base hT,a.nl.base hT,a.nlen,fun k hk=>(a.ns k hk).base hT,a.ml.base hT,a.mlen,fun k hk=>(a.ms k hk).base hT,a.tl.base hT,a.tlen,fun k hk=>(a.ts k hk).base hT,a.root,a.pl⟩
theorem zi.at(a:zi T w h x s)(f:a3N s):Zu w h x s:=by
 have g1:=a.g.sl.1;have g2:=a.g.kl;have n1:=a.nl.1;have m1:=a.ml.1;have t1:=a.tl.1;have n2:=a.nlen;have m2:=a.mlen;have t2:=a.tlen;have f1:=f.sl;have f2:=f.ks;have f4:=f.nn;have f5:=f.mn;have f6:=f.tn;refine⟨a.g.at om0 om0 f.row,⟨a.nl.lay,⟨a.nlen,fun k hk=>(a.ns k hk).at (f.ns k om0)⟩,a.ml.lay,⟨a.mlen,fun k hk=>(a.ms k hk).at (f.ms k om0)⟩,a.tl.lay,⟨a.tlen,fun k hk=>(a.ts k hk).at (f.ts k om0)⟩,om0,om0,om0,a.root⟩,f⟩
theorem Zu.ex(a:Zu w h x s)(hw:∃y,w'=plus w y):Zu w' h x s:=⟨a.g.ex hw,a.r.ex hw,a.f⟩
theorem Zu.small(a:Zu w h x s):a6n x:=by
 refine⟨fun k hk=>?_,fun k hk=>?_⟩
 ·have h1:=a.r.ns.len;have h2:=(a.r.ns.one k hk).lay.len;have h3:=a.f.ns k om0;unfold al2 at h3;omega
 ·have h1:=a.r.ms.len;have h2:=a.r.ms.one k hk;obtain⟨f1,f2,f3,f4⟩:=a.f.ms k om0;have v:=h2.vl.len;have u:=h2.ul.len;have p:=h2.pl.len;have q:=h2.pp.len;refine⟨om0,om0,om0,fun j hj=>?_⟩;have h3:=(h2.pp.one j hj).lay.len;have h4:=f4 j om0;omega
theorem Zu.nn(a:Zu w h x s):s.ns.length=h.nn∧x.nh.length=h.nn:=⟨a.r.ns.len▸a.r.nl.len,a.r.nl.len⟩
theorem Zu.mn(a:Zu w h x s):s.ms.length=h.mn∧x.mh.length=h.mn:=⟨a.r.ms.len▸a.r.ml.len,a.r.ml.len⟩
theorem Zu.tn(a:Zu w h x s):s.ts.length=h.tn∧x.th.length=h.tn:=⟨a.r.ts.len▸a.r.tl.len,a.r.tl.len⟩
end
theorem a9i{m:Ms}(h:ZP m=true){k:Nat}(hk:k<m.ps.length):(nth dPr m.ps k).ix.length≤200:=by
 simp only[ZP,az5,Bool.and_eq_true,List.all_eq_true]at h;have h1:=h.2.1 _ (F3 (d:=dPr) hk);simp only[pOk,Bool.and_eq_true,decide_eq_true_eq]at h1;have h2:=h1.1;unfold N6 at h2;split at h2
 ·cases h2
 split at h2
 ·cases h2
 ·omega
theorem aj0{m:Ms}(h:L3 m=0):a3y m:=by
 unfold L3 at h;split at h
 ·cases h
 ·rename_i h1;split at h
  ·rename_i h2;refine⟨om0,om0,om0,fun k hk=>?_⟩;have:=a9i h2 hk;omega
  ·cases h
theorem a2i{t:Tp}(h:Y5 t=true):aa2 t:=by
 unfold Y5 ad2 at h;simp only[Bool.and_eq_true,decide_eq_true_eq,aw1]at h;obtain⟨h1,h2,h3⟩:=h;have:t.w*t.h≤16*16:=Int.mul_le_mul h1.2 h2.2 om0 om0;unfold aa2;omega
theorem a6d{a b:Nat}{n:Nd}(h:ze a b n=true):al2 n:=by
 unfold al2;simp only[ze,Bool.and_eq_true]at h;obtain⟨h1,h2,h3,h4,h5,h6,h7⟩:=h;split at h7
 ·rename_i e5;simp only[Bool.or_eq_true,Bool.and_eq_true,decide_eq_true_eq]at h6;rcases h6 with h6|h6
  ·omega
  ·omega
 ·simp only[Bool.and_eq_true,G8,decide_eq_true_eq]at h7;omega
theorem A7{s:Sc}(h:C2 s=true):a3N s:=by
 obtain⟨hg,hl,hst,hn,hr⟩:=B6 h;obtain⟨g1,g2,g3,g4⟩:=zx hg;obtain⟨m1,m2,m3,m4⟩:=K6 hst;have ha:=QB g1;refine⟨om0,om0,fun k hk=>?_,om0,om0,om0,fun k hk=>?_,fun k hk=>aj0 (m1 _ (F3 hk)),fun k hk=>a2i (m2 _ (F3 hk))⟩
 ·have:=(Qk g3 hk).1;omega
 ·have hk2:=M4.1 (hn k hk);cases hv:(nth dSl s.g.sl k).live
  ·rw[hk2.2.1 hv];exact Nat.zero_le _
  ·exact a6d (hk2.1 hv)
end
open Go.RowKit Go.ChangeShapes Go.WideShapes Go.ChangeAt
set_option linter.unusedSimpArgs false
set_option linter.unusedVariables false
attribute [local go_sem] qn qZ A2 zg zz zA t5 qJ zf qO qD t6
section
end
section
end
section
end
section
theorem C0(ao:Option Addr)(n cap:Nat)(l:List Sl)(w:World)(hl:Lay fS w ao n l)(hn:n≤9223372036854775807):
  Calls Tryz.prog 128 #[.agg #[.slice ao n cap]] w fun e w'=>e=.returned (.int .i64 (E7 l))∧Below w.heap.size w w':=by
 have hlen:=hl.len;by_cases h3:n≤128;rotate_left
 ·have i3:(128:Int)<(n:Int):=om0;have hno:E7 l=8:=by rw[E7,if_neg];simp[S5];omega
  rw[hno];go_enter Tryz.func128,Tryz.ntmps128;go_wp2;go_ret;exact⟨rfl,skB⟩
 have i3:¬(128:Int)<(n:Int):=om0;have d3:=decide_eq_false i3;go_enter Tryz.func128,Tryz.ntmps128;go_wp2;go_loopw [12] (fun i wr=>∃k:Nat,k≤n∧i=.int .i64 k∧(∀j,j<k→a19 (nth dSl l j)=true)∧∃x,wr=plus (w.alloc (.cells #[.slice ao n cap] 24)) x) (fun i _=>n - (intOf i).toNat)
 case atStart=>exact⟨0,Nat.zero_le _,rfl,fun j hj=>om0,sk0⟩
 case round=>
  obtain⟨k,hk,rfl,hs,x,rfl⟩:=hrel;by_cases hkl:k<n
  ·obtain⟨g,off,rfl,hg,hcell⟩:=hl.some om0;obtain⟨c0,c1⟩:=Y3 hlen hcell hkl;have ik:(k:Int)<(n:Int):=om0;by_cases h1:(nth dSl l k).gen<1
   ·have hno:S5 l=false:=by rw[S5,ay8 (d:=dSl) (k:=k) om0 (by simp[a19];omega),Bool.false_and]
    go_wp2;go_ret;exact⟨by rw[E7,hno];rfl,skB⟩
   have d1:=decide_eq_false h1;by_cases h2:1073741824<(nth dSl l k).gen
   ·have hno:S5 l=false:=by rw[S5,ay8 (d:=dSl) (k:=k) om0 (by simp[a19];omega),Bool.false_and]
    go_wp2;go_ret;exact⟨by rw[E7,hno];rfl,skB⟩
   ·have d2:=decide_eq_false h2;have hok:a19 (nth dSl l k)=true:=by simp[a19];omega
    go_wp2;go_roundw
    case rel=>exact⟨k+1,om0,by go_num,B0 hs hok,sk0⟩
    case measure=>simp[intOf];omega
  ·have ik:¬(k:Int)<(n:Int):=om0;have hall:l.all a19=true:=K5 (d:=dSl) (fun j hj=>hs j om0);go_wp2;go_ret;exact⟨by rw[E7,S5,hall,hlen,decide_eq_true h3];rfl,skB⟩
theorem H3(s g:Int)(w:World):Calls Tryz.prog 168 #[.agg #[.int .i64 s,.int .i64 g]] w fun e w'=>e=.returned (.agg #[.int .i64 g,.bool true])∧Below w.heap.size w w':=by
 go_enter Tryz.func168,Tryz.ntmps168;go_wp2;exact bodyPost_ret (v:=.agg #[.int .i64 g,.bool true]) (by simp[results,Tryz.results168,go_sem,↓IntWalk.iteOmega]) rfl ⟨rfl,skB⟩
theorem Qd(ao:Option Addr)(n cap:Nat)(l:List Sl)(s g:Int)(w:World)(hl:Lay fS w ao n l)(hn:n≤9223372036854775807):
  Calls Tryz.prog 129 #[.agg #[.slice ao n cap],.agg #[.int .i64 s,.int .i64 g]] w fun e w'=>e=.returned (.bool (qG l s g))∧Below w.heap.size w w':=by
 have hlen:=hl.len;by_cases h0:0≤s;rotate_left
 ·rw[show qG l s g=false by simp[qG,h0]];have d0:decide (0≤s)=false:=decide_eq_false h0;go_enter Tryz.func129,Tryz.ntmps129;go_wp2;refine qg kr0 kr0 ?_
  (repeat(go_big_quiet_step ((go_at_call 168;exact C8 (H3 _ _ _)))))
  refine wpQuiet_nil ?_;rintro _ ⟨x2,rfl⟩;go_wp2;go_ret;exact⟨rfl,skB⟩
 by_cases h1:s<n;rotate_left
 ·rw[show qG l s g=false by simp[qG,hlen,h1]];have d1:decide (s<(n:Int))=false:=decide_eq_false h1;go_enter Tryz.func129,Tryz.ntmps129;go_wp2;refine qg kr0 kr0 ?_
  (repeat(go_big_quiet_step ((go_at_call 168;exact C8 (H3 _ _ _)))))
  refine wpQuiet_nil ?_;rintro _ ⟨x2,rfl⟩;go_wp2;go_ret;exact⟨rfl,skB⟩
 obtain⟨k,rfl⟩:∃k:Nat,s=(k:Int):=⟨s.toNat,om0⟩;obtain⟨gm,off,rfl,hg,hcell⟩:=hl.some om0;obtain⟨c0,c1⟩:=Y3 hlen hcell (k:=k) om0;by_cases h3:(nth dSl l k).gen=g;rotate_left
 ·rw[show qG l k g=false by simp[qG,h3]];have d3:((nth dSl l k).gen==g)=false:=by rw[beq_eq_false_iff_ne];exact h3
  go_enter Tryz.func129,Tryz.ntmps129;go_wp2;refine qg kr0 kr0 ?_
  (repeat(go_big_quiet_step ((go_at_call 168;exact C8 (H3 _ _ _)))))
  refine wpQuiet_nil ?_;rintro _ ⟨x2,rfl⟩;go_wp2;go_ret;exact⟨rfl,skB⟩
 cases h2:(nth dSl l k).live
 ·rw[show qG l k g=false by simp[qG,h2]];go_enter Tryz.func129,Tryz.ntmps129;go_wp2;refine qg kr0 kr0 ?_
  (repeat(go_big_quiet_step ((go_at_call 168;exact C8 (H3 _ _ _)))))
  refine wpQuiet_nil ?_;rintro _ ⟨x2,rfl⟩;go_wp2;go_ret;exact⟨rfl,skB⟩
 ·rw[show qG l k g=true by rw[C6,Int.toNat_natCast,hlen];exact⟨⟨h0,h1⟩,h2,h3⟩];go_enter Tryz.func129,Tryz.ntmps129;go_wp2;refine qg kr0 kr0 ?_
  (repeat(go_big_quiet_step ((go_at_call 168;exact C8 (H3 _ _ _)))))
  refine wpQuiet_nil ?_;rintro _ ⟨x2,rfl⟩;go_wp2;go_ret;exact⟨rfl,skB⟩
theorem R1(ao:Option Addr)(n cap:Nat)(l:List Sl)(s g:Int)(w:World)(hl:Lay fS w ao n l)(hn:n≤9223372036854775807):
  Calls Tryz.prog 79 #[.agg #[.slice ao n cap],.agg #[.int .i64 s,.int .i64 g]] w fun e w'=>e=.returned (.bool (ZO l s g))∧Below w.heap.size w w':=by
 cases ho:S5 l
 ·rw[show ZO l s g=false by rw[ZO,ho,Bool.false_and]];have he:E7 l=8:=by rw[E7,ho];rfl
  go_enter Tryz.func79,Tryz.ntmps79;go_wp2_with (first|(go_at_call 128;refine pm0 (C0 _ _ _ l _ (hl.ex sk0) om0) fun nx=>?_;rw[he])|(go_at_call 129;refine pm0 (Qd _ _ _ l _ _ _ (hl.ex sk0) om0) fun nx=>?_));go_ret;exact⟨rfl,skB⟩
 ·rw[show ZO l s g=qG l s g by rw[ZO,ho,Bool.true_and]];have he:E7 l=0:=by rw[E7,ho];rfl
  go_enter Tryz.func79,Tryz.ntmps79;go_wp2_with (first|(go_at_call 128;refine pm0 (C0 _ _ _ l _ (hl.ex sk0) om0) fun nx=>?_;rw[he])|(go_at_call 129;refine pm0 (Qd _ _ _ l _ _ _ (hl.ex sk0) om0) fun nx=>?_));go_ret;exact⟨rfl,skB⟩
end
section
theorem al1(ao:Option Addr)(n cap k:Nat)(l:List Sl)(w:World)(hl:Lay fS w ao n l)(hk:k<n):
  Calls Tryz.prog 178 #[.slice ao n cap,.int .i64 k] w fun e w'=>e=.returned (.bool (S7 (nth dSl l k)))∧Below w.heap.size w w':=by
 obtain⟨g,off,rfl,hg,hcell⟩:=hl.some om0;obtain⟨c0,c1⟩:=Y3 hl.len hcell hk;have ik:(k:Int)<(n:Int):=om0;cases hv:(nth dSl l k).live;rotate_left
 ·rw[show S7 (nth dSl l k)=false by simp[S7,hv]];rw[hv]at c1;go_enter Tryz.func178,Tryz.ntmps178;go_wp2;go_ret;exact⟨rfl,skB⟩
 rw[hv]at c1;by_cases h2:(nth dSl l k).gen<1073741824
 ·rw[show S7 (nth dSl l k)=true by simp[S7,hv,h2]];go_enter Tryz.func178,Tryz.ntmps178;go_wp2;go_ret;exact⟨rfl,skB⟩
 ·rw[show S7 (nth dSl l k)=false by simp[S7,h2]];have d2:=decide_eq_false h2;go_enter Tryz.func178,Tryz.ntmps178;go_wp2;go_ret;exact⟨rfl,skB⟩
theorem Zg(ao:Option Addr)(n cap:Nat)(l:List Sl)(w:World)(hl:Lay fS w ao n l)(hn:n≤10000):
  Calls Tryz.prog 177 #[.func (.func 178) #[.slice ao n cap] #[],.int .i64 n] w fun e w'=>e=.returned (.int .i64 (B3 l))∧Below w.heap.size w w':=by
 have hlen:=hl.len;go_enter Tryz.func177,Tryz.ntmps177;go_wp2;go_loopw [7] (fun i wr=>∃k:Nat,k≤n∧i=.int .i64 k∧(∀j,j<k→S7 (nth dSl l j)=false)∧∃x,wr=plus w x) (fun i _=>n - (intOf i).toNat)
 case atStart=>exact⟨0,Nat.zero_le _,rfl,fun j hj=>om0,sk0⟩
 case round=>
  obtain⟨k,hk,rfl,hs,x,rfl⟩:=hrel;by_cases hkl:k<n
  ·have ik:(k:Int)<(n:Int):=om0;cases hf:S7 (nth dSl l k)
   ·go_wp2_with (go_at_call 178;refine pm0 (al1 _ _ _ _ l _ (hl.ex sk0) hkl) fun nx=>?_;rw[hf]);go_roundw
    case rel=>exact⟨k+1,om0,by go_num,B0 hs hf,sk0⟩
    case measure=>simp[intOf];omega
   ·have hfa:B3 l=k:=ad3 om0 hs (fun _=>hf);go_wp2_with (go_at_call 178;refine pm0 (al1 _ _ _ _ l _ (hl.ex sk0) hkl) fun nx=>?_;rw[hf]);go_ret;exact⟨by first|rfl|(rw[hfa];rfl),skB⟩
  ·have ik:¬(k:Int)<(n:Int):=om0;have hfa:B3 l=n:=ad3 om0 (fun j hj=>hs j om0) (fun h=>om0);go_wp2;go_ret;exact⟨by first|rfl|(rw[hfa];rfl),skB⟩
theorem W7(ao:Option Addr)(n cap:Nat)(l:List Sl)(w:World)(hl:Lay fS w ao n l)(hn:n≤10000):
  Calls Tryz.prog 81 #[.agg #[.slice ao n cap]] w fun e w'=>∃ao' cap',e=.returned (.agg #[.slice ao' n cap'])∧(∃y,w'=plus w y)∧Own 86 2 fS w w' ao' n cap' l:=by
 have hlen:=hl.len;obtain⟨cur,hcur,hmk⟩:=a1q a8t.info a8t.und n om0 dc0;have hcp:=a0x (W:=((w.alloc (.cells #[.slice ao n cap] 24))).alloc (.cells #[.slice none 0 0] 24)) (g:=w.heap.size+1+1) (cap:=n) (c2:=cap) (t2:=22) (ty:=3) (ob:=.cells #[.slice (some ⟨w.heap.size+1+1,0,none⟩) n n] 24) a8t a1s a8W (by simp[go_sem]) (hl.ex sk0) hcur;go_enter Tryz.func81,Tryz.ntmps81;go_wp2;exact bodyPost_ret (v:=.agg #[.slice (some ⟨w.heap.size+1+1,0,none⟩) n n]) (by simp[results,Tryz.results81,go_sem,↓IntWalk.iteOmega]) rfl ⟨some ⟨w.heap.size+1+1,0,none⟩,n,rfl,sk0,Z9 hlen a1s (by rw[qe,if_neg (by simp),qe,if_pos (by simp)]) om0 (by unfold maxLen;omega)⟩
end
section
theorem a4h{l:List Sl}{k:Nat}(hk:k<l.length):qG l (k:Int) (nth dSl l k).gen=(nth dSl l k).live:=by
 have h2:(0:Int)≤(k:Int)∧(k:Int)<(l.length:Int):=om0;simp[qG,hk]
theorem an1(ao:Option Addr)(n cap:Nat)(l:List Sl)(s g:Int)(w:World)(hl:Lay fS w ao n l)(hn:n≤1000):
  Calls Tryz.prog 165 #[.agg #[.slice ao n cap],.agg #[.int .i64 s,.int .i64 g]] w fun e w'=>a9A w (H1 l s g) (D8 l s g) e w':=by
 have hlen:=hl.len;cases ho:S5 l
 ·have hC:E7 l=8:=by rw[E7,ho];rfl
  have he:D8 l s g=8:=by rw[D8,ho];rfl
  rw[he,show H1 l s g=[]by rw[H1,he];rfl];go_enter Tryz.func165,Tryz.ntmps165;go_wp2_with (go_at_call 128;refine pm0 (C0 _ _ _ l _ (hl.ex sk0) om0) fun nx=>?_;rw[hC]);exact bodyPost_ret (v:=.tuple #[.agg #[.slice none 0 0],.int .i64 8]) (by simp[results,Tryz.results165,go_sem,↓IntWalk.iteOmega]) rfl ⟨none,0,rfl,sk0,zd⟩
 have hC:E7 l=0:=by rw[E7,ho];rfl
 cases hh:qG l s g
 ·have he:D8 l s g=50:=by rw[D8,ho,hh];rfl
  rw[he,show H1 l s g=[]by rw[H1,he];rfl];go_enter Tryz.func165,Tryz.ntmps165;go_wp2_with (first|(go_at_call 128;refine pm0 (C0 _ _ _ l _ (hl.ex sk0) om0) fun nx=>?_;rw[hC])|(go_at_call 129;refine pm0 (Qd _ _ _ l _ _ _ (hl.ex sk0) om0) fun nx=>?_;rw[hh]));exact bodyPost_ret (v:=.tuple #[.agg #[.slice none 0 0],.int .i64 50]) (by simp[results,Tryz.results165,go_sem,↓IntWalk.iteOmega]) rfl ⟨none,0,rfl,sk0,zd⟩
 have he:D8 l s g=0:=by rw[D8,ho,hh];rfl
 rw[he,show H1 l s g=qK l s by rw[H1,he];rfl];obtain⟨⟨s0,s1⟩,_⟩:=C6.1 hh;obtain⟨k,rfl⟩:∃k:Nat,s=(k:Int):=⟨s.toNat,om0⟩;have hk:k<n:=om0;have ik:(k:Int)<(n:Int):=om0;have hkl:(qK l (k:Int)).length=n:=by rw[qK,List.length_set];exact hlen
 go_enter Tryz.func165,Tryz.ntmps165;go_wp2_with (first|(go_at_call 128;refine pm0 (C0 _ _ _ l _ (hl.ex sk0) om0) fun nx=>?_;rw[hC])|(go_at_call 129;refine pm0 (Qd _ _ _ l _ _ _ (hl.ex sk0) om0) fun nx=>?_;rw[hh])|(go_at_call 81;refine(W7 _ _ _ l _ (hl.ex sk0) om0).mono ?_;rintro e w1 ⟨a1,c1,rfl,hw1,o1⟩;have b0:w1.cell? ⟨w.heap.size+1,0,none⟩=some (.int .i64 k):=qf hw1 (by simp[go_sem,↓IntWalk.iteOmega]);have hres:w1.heap[w.heap.size+1+1]?=some (.cells #[.slice none 0 0] 24):=i7 (w:=((w.alloc (.cells #[.slice ao n cap] 24)).alloc (.cells #[.int .i64 k,.int .i64 g] 32)).alloc (.cells #[.slice none 0 0] 24)) sn0 (by rw[qe,if_pos (by simp[go_sem])]);obtain⟨g1,cur,rfl,hg1,hb1,hsz⟩:=o1.blk om0;obtain⟨_,_,eqa,hlt1,hc1⟩:=o1.lay.some om0;cases eqa;obtain⟨x0,x1⟩:=Y3 o1.1 hc1 (k:=k) hk;rw[Nat.zero_add]at x0 x1;have z1:=j9 (i:=k*2+1) hb1;have y0:=i6 (i:=0) hres rfl;have zy:=j9 (i:=0) hres;have hrl:=qi hres));have hgw:w.heap.size≤g1:=by simp[go_sem]at hg1;omega
 have hne:g1≠w.heap.size+1+1:=by
  intro e0;rw[e0,hres]at hb1;cases hb1
 have o2:=o1.set_self (u:=.bool false) k 1 ⟨(nth dSl l k).gen,false⟩ dSl hk a1s dc0 rfl;have hres2:(w1.setCell ⟨g1,k*2+1,none⟩ (.bool false)).heap[w.heap.size+1+1]?=_:=(qd hne).trans hres;have o3:=(o2.set_other (i:=0) (u:=.slice (some ⟨g1,0,none⟩) n c1) hres2 dc0).ex (qE (o:=.cells #[.slice (some ⟨g1,0,none⟩) n c1] 24) (j5 _));have hres3:=i7 (qE (o:=.cells #[.slice (some ⟨g1,0,none⟩) n c1] 24) (j5 _)) (j7 (i:=0) (u:=.slice (some ⟨g1,0,none⟩) n c1) hres2);have hx3:∃y,((w1.setCell ⟨g1,k*2+1,none⟩ (.bool false)).setCell ⟨w.heap.size+1+1,0,none⟩ (.slice (some ⟨g1,0,none⟩) n c1)).alloc (.cells #[.slice (some ⟨g1,0,none⟩) n c1] 24)=plus w y:=qE (qb (qb sn0 hgw) om0);generalize ((w1.setCell ⟨g1,k*2+1,none⟩ (.bool false)).setCell ⟨w.heap.size+1+1,0,none⟩ (.slice (some ⟨g1,0,none⟩) n c1)).alloc (.cells #[.slice (some ⟨g1,0,none⟩) n c1] 24)=w4 at*;have c0:=i6 (i:=0) hres3 rfl;exact bodyPost_ret (v:=.tuple #[.agg #[.slice (some ⟨g1,0,none⟩) n c1],.int .i64 0]) (by simp[results,Tryz.results165,go_sem,c0]) rfl ⟨some ⟨g1,0,none⟩,c1,by rw[hkl],hx3,by rw[hkl];exact o3.base (by simp[go_sem];omega)⟩
theorem Zx(ao:Option Addr)(n cap:Nat)(l:List Sl)(w:World)(hl:Lay fS w ao n l)(hn:n≤9223372036854775807):
  Calls Tryz.prog 71 #[.agg #[.slice ao n cap]] w fun e w'=>a8s f2 w (Q2 l) (.int .i64 (E7 l)) e w':=by
 have hlen:=hl.len;cases ho:S5 l
 ·have hC:E7 l=8:=by rw[E7,ho];rfl
  rw[hC,show Q2 l=[]by rw[Q2,ho];rfl];go_enter Tryz.func71,Tryz.ntmps71;go_wp2_with (go_at_call 128;refine pm0 (C0 _ _ _ l _ (hl.ex sk0) hn) fun nx=>?_;rw[hC]);exact bodyPost_ret (v:=.tuple #[.slice none 0 0,.int .i64 8]) (by simp[results,Tryz.results71,go_sem]) rfl ⟨_,_,_,rfl,sk0,Lay.nil⟩
 rw[show E7 l=0 by rw[E7,ho];rfl,show Q2 l=ad5 l n by rw[Q2,ho,hlen];rfl];have h128:=QB ho;have hC:E7 l=0:=by rw[E7,ho];rfl
 go_enter Tryz.func71,Tryz.ntmps71;go_wp2_with (go_at_call 128;refine pm0 (C0 _ _ _ l _ (hl.ex sk0) hn) fun nx=>?_;rw[hC]);go_loopw [5,17] (fun v i wr=>∃(k:Nat) (ao':Option Addr) (cap':Nat),k≤n∧v=.slice ao' (ad5 l k).length cap'∧i=.int .i64 k∧(∃y,wr=plus (plus (w.alloc (.cells #[.slice ao n cap] 24)) nx) y)∧Own 32 2 f2 (plus (w.alloc (.cells #[.slice ao n cap] 24)) nx) wr ao' (ad5 l k).length cap' (ad5 l k)) (fun _ i _=>n - (intOf i).toNat)
 case atStart=>exact⟨0,none,0,Nat.zero_le _,rfl,rfl,sk0,zd⟩
 case round=>
  obtain⟨k,ao',cap',hk,rfl,rfl,⟨x,rfl⟩,hown⟩:=hrel;have hle:=a1D l k;by_cases hkl:k<n
  ·obtain⟨g,off,rfl,hg,hcell⟩:=hl.some om0;obtain⟨c0,c1⟩:=Y3 hlen hcell hkl;have ik:(k:Int)<(n:Int):=om0;cases hv:(nth dSl l k).live
   ·have hs:ad5 l (k+1)=ad5 l k:=by show ad5 l k++_=_;rw[hv];simp
    go_wp2_with (go_at_call 129;refine(A4 (Qd _ _ _ l _ _ _ (hl.ex sk0) om0)).mono ?_;rintro e w' ⟨rfl,nh,rfl⟩;rw[a4h om0,hv]);go_roundw
    case rel=>exact⟨k+1,ao',cap',om0,by rw[hs],by go_num,sk0,by rw[hs];exact hown.ex sk0⟩
    case measure=>simp[intOf];omega
   ·have hs:ad5 l (k+1)=ad5 l k++[((k:Int),(nth dSl l k).gen)]:=by show ad5 l k++_=_;rw[hv];rfl
    have hsn:(ad5 l (k+1)).length=(ad5 l k).length+1:=by rw[hs,List.length_append];rfl
    go_wp2_with (first|(go_at_call 129;refine(A4 (Qd _ _ _ l _ _ _ (hl.ex sk0) om0)).mono ?_;rintro e w' ⟨rfl,nh,rfl⟩;rw[a4h om0,hv])|(at_builtin;(refine qo (T:=plus (w.alloc (.cells #[.slice (some ⟨g,off,none⟩) n cap] 24)) nx) rfl _ _ rfl ad6 Q1 ZV rfl sk0 (hown.ex sk0) rfl (l2:=[((k:Int),(nth dSl l k).gen)]) ⟨rfl,.inr ⟨_,0,rfl,by(simp[go_sem];try omega),fun jj u hu=>by match jj,hu with|0,hu=>(simp[f2]at hu;subst hu;simp[go_sem,↓IntWalk.iteOmega])|1,hu=>(simp[f2]at hu;subst hu;simp[go_sem,↓IntWalk.iteOmega])|jj+2,hu=>simp[f2]at hu⟩⟩ om0 dc0 ?_;intro ao' cap' y' hown')));go_roundw
    case rel=>exact⟨k+1,ao',cap',om0,by rw[hsn],by go_num,⟨y',rfl⟩,by rw[hsn,hs];exact hown'⟩
    case measure=>simp[intOf];omega
  ·have ik:¬(k:Int)<(n:Int):=om0;obtain rfl:k=n:=om0;go_wp2;exact bodyPost_ret (v:=.tuple #[.slice ao' (ad5 l k).length cap',.int .i64 0]) (by simp[results,Tryz.results71,go_sem]) rfl ⟨_,_,_,rfl,sk0,hown.lay⟩
end
end Go.Proofs.YtcekcihijdipoaaGreat
