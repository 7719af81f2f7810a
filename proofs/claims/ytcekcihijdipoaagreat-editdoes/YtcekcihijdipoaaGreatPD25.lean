/- A pack of texts: EdOwn2, Made, EdTn, EdTwN, EdTwM, EdTwT, EdTwin, EdOwn3, EdNode. -/
import Derived.Test.YtcekcihijdipoaaGreatPD18
namespace Go.Proofs.YtcekcihijdipoaaGreat
set_option maxRecDepth 100000
set_option maxHeartbeats 16000000
section
open Go.RowKit
def F2:List TypeId:=[86,88,32,56,3,61,43,137,131,64,50]
section
variable {T w:World} {g:Nat} {cur cs:Array Value} {e':TypeId}
theorem zS.row_out{ao ko:Option Addr}{n cap kn kcap:Nat}{hs:List RH}{gr:Gr}(h:zS T w ao n cap ko kn kcap hs gr)(hg:g<T.heap.size):zS T (w.setRow g cs) ao n cap ko kn kcap hs gr:=
 ⟨h.sl.row_out hg,h.kh.row_out hg,h.len,fun k hk=>(h.row k hk).row_out hg⟩
theorem zS.row_other{ao ko:Option Addr}{n cap kn kcap:Nat}{hs:List RH}{gr:Gr}(h:zS T w ao n cap ko kn kcap hs gr)(hb:w.heap[g]?=some (.cells cur e'))(h1:e'≠86)(h2:e'≠88)(h3:e'≠32):zS T (w.setRow g cs) ao n cap ko kn kcap hs gr:=
 ⟨h.sl.row_other hb h1,h.kh.row_other hb h2,h.len,fun k hk=>(h.row k hk).row_other hb h3⟩
theorem zV.row_out{h:NH}{n:Nd}(a:zV T w h n)(hg:g<T.heap.size):zV T (w.setRow g cs) h n:=⟨a.f,a.b,a.far.row_out hg⟩
theorem zZ.row_out{h:MH}{hs:List PH}{m:Ms}(a:zZ T w h hs m)(hg:g<T.heap.size):zZ T (w.setRow g cs) h hs m:=
 ⟨⟨a.t.v.row_out hg,a.t.u.row_out hg,a.t.p.row_out hg,a.t.len,a.t.kind,fun k hk=>(a.t.ix k hk).row_out hg⟩,a.b⟩
theorem D0.row_out{h:TH}{t:Tp}(a:D0 T w h t)(hg:g<T.heap.size):D0 T (w.setRow g cs) h t:=⟨a.we,a.he,a.tx.row_out hg,a.ok⟩
variable {h:SH} {x:SX} {s:Sc}
theorem zi.row_out(a:zi T w h x s)(hg:g<T.heap.size):zi T (w.setRow g cs) h x s:=
 ⟨a.g.row_out hg,a.nl.row_out hg,a.nlen,fun k hk=>(a.ns k hk).row_out hg,a.ml.row_out hg,a.mlen,fun k hk=>(a.ms k hk).row_out hg,a.tl.row_out hg,a.tlen,fun k hk=>(a.ts k hk).row_out hg,a.root,a.pl⟩
theorem zi.row_other(a:zi T w h x s)(hb:w.heap[g]?=some (.cells cur e'))(he:e' ∉ F2):zi T (w.setRow g cs) h x s:=by
 simp only[F2,List.mem_cons,List.not_mem_nil,or_false,not_or]at he;obtain⟨e1,e2,e3,e4,e5,e6,e7,e8,e9,e10,e11⟩:=he;exact⟨a.g.row_other hb e1 e2 e3,a.nl.row_other hb e4,a.nlen,fun k hk=>(a.ns k hk).row_other hb e5,a.ml.row_other hb e6,a.mlen,fun k hk=>(a.ms k hk).row_other hb e7 e8 e9 e5,a.tl.row_other hb e10,a.tlen,fun k hk=>(a.ts k hk).row_other hb e11,a.root,a.pl⟩
theorem a1Z(w:World){i:Nat}{u:Value}(hb:w.heap[g]?=some (.cells cur e')):w.setCell ⟨g,i,none⟩ u=w.setRow g (cur.setIfInBounds i u):=setCell_eq_setRow w g i cur e' (0,0) u hb
theorem zi.set_other(a:zi T w h x s){i:Nat}{u:Value}(hb:w.heap[g]?=some (.cells cur e'))(he:e' ∉ F2):zi T (w.setCell ⟨g,i,none⟩ u) h x s:=by
 rw[a1Z w hb];exact a.row_other hb he
theorem zi.setNode(a:zi T w h x s){gb k:Nat}(ha:h.na=some ⟨gb,0,none⟩)(hb:w.heap[gb]?=some (.cells cur 56))(hk:k<h.nn){hn:NH}{n:Nd}(o:zV T w hn n):
  zi T (w.setRow gb (H6 cur (k*33) (fN hn))) h ⟨x.gr,x.nh.set k hn,x.mh,x.ph,x.th⟩ ⟨s.g,s.ns.set k n,s.ms,s.ts,s.root⟩:=by
 have n1:=a.nl.1;have n2:=a.nlen;have nl:=a.nl;rw[ha]at nl;refine⟨a.g.row_other hb dc0 dc0 dc0,by rw[ha];exact(nl.set_row hb hk ag0 hn).1,by simp only[List.length_set];exact n2,fun j hj=>?_,a.ml.row_other hb dc0,a.mlen,fun k hk=>(a.ms k hk).row_other hb dc0 dc0 dc0 dc0,a.tl.row_other hb dc0,a.tlen,fun k hk=>(a.ts k hk).row_other hb dc0,a.root,a.pl⟩;simp only[List.length_set]at hj ⊢;rw[qR om0,qR om0];split
 ·exact o.row_other hb dc0
 ·exact(a.ns j hj).row_other hb dc0
theorem zi.setMesh(a:zi T w h x s){gb k:Nat}(ha:h.ma=some ⟨gb,0,none⟩)(hb:w.heap[gb]?=some (.cells cur 61))(hk:k<h.mn){hm:MH}{hs:List PH}{m:Ms}(o:zZ T w hm hs m):
  zi T (w.setRow gb (H6 cur (k*3) (fMh hm))) h ⟨x.gr,x.nh,x.mh.set k hm,x.ph.set k hs,x.th⟩ ⟨s.g,s.ns,s.ms.set k m,s.ts,s.root⟩:=by
 have n1:=a.ml.1;have n2:=a.mlen;have n3:=a.pl;have nl:=a.ml;rw[ha]at nl;refine⟨a.g.row_other hb dc0 dc0 dc0,a.nl.row_other hb dc0,a.nlen,fun k hk=>(a.ns k hk).row_other hb dc0,by rw[ha];exact(nl.set_row hb hk Z1 hm).1,by simp only[List.length_set];exact n2,fun j hj=>?_,a.tl.row_other hb dc0,a.tlen,fun k hk=>(a.ts k hk).row_other hb dc0,a.root,by simp only[List.length_set];exact a.pl⟩;simp only[List.length_set]at hj ⊢;rw[qR om0,qR om0,qR om0];split
 ·exact o.row_other hb dc0 dc0 dc0 dc0
 ·exact(a.ms j hj).row_other hb dc0 dc0 dc0 dc0
theorem zi.setTex(a:zi T w h x s){gb k:Nat}(ha:h.ta=some ⟨gb,0,none⟩)(hb:w.heap[gb]?=some (.cells cur 64))(hk:k<h.tn){ht:TH}{t:Tp}(o:D0 T w ht t):
  zi T (w.setRow gb (H6 cur (k*3) (fTh ht))) h ⟨x.gr,x.nh,x.mh,x.ph,x.th.set k ht⟩ ⟨s.g,s.ns,s.ms,s.ts.set k t,s.root⟩:=by
 have n1:=a.tl.1;have n2:=a.tlen;have nl:=a.tl;rw[ha]at nl;refine⟨a.g.row_other hb dc0 dc0 dc0,a.nl.row_other hb dc0,a.nlen,fun k hk=>(a.ns k hk).row_other hb dc0,a.ml.row_other hb dc0,a.mlen,fun k hk=>(a.ms k hk).row_other hb dc0 dc0 dc0 dc0,by rw[ha];exact(nl.set_row hb hk Z2 ht).1,by simp only[List.length_set];exact n2,fun j hj=>?_,a.root,a.pl⟩;simp only[List.length_set]at hj ⊢;rw[qR om0,qR om0];split
 ·exact o.row_other hb dc0
 ·exact(a.ts j hj).row_other hb dc0
end
def qa (h:SH):List Value:=[.slice h.ga h.gn h.gc,.slice h.ka h.kn h.kc,.slice h.na h.nn h.nc,.slice h.ma h.mn h.mc,.slice h.ta h.tn h.tc,.int .i64 h.r0,.int .i64 h.r1]
theorem qX(h:SH):∀u∈qa h,u.oneCell'=true:=by
 intro u hu;simp only[qa,List.mem_cons,List.not_mem_nil,or_false]at hu;rcases hu with rfl|rfl|rfl|rfl|rfl|rfl|rfl<;>rfl
def a89 (w:World) (s:Sc) (e:Ending) (w':World):Prop:=∃h' x',e=.returned (vS h')∧(∃y,w'=plus w y)∧zi w w' h' x' s
end
section
open Go.RowKit
theorem a5V{α:Type}{f:α→List Value}{d:α}{c:Nat}(hc:∀x,(f x).length=c)(h0:0<c)(n:Nat):madeCells (f d).toArray (n*c)=((List.replicate n d).flatMap f).toArray:=by
 apply Array.ext';rw[List.toList_toArray];apply List.ext_getElem?;intro k;by_cases hk:k<n*c
 ·have hq:k / c<n:=(Nat.div_lt_iff_lt_mul h0).2 hk;have hr:k % c<c:=Nat.mod_lt _ h0;have h1:=ad7 hc (List.replicate n d) (k / c) (by simpa using hq) (k % c) hr;rw[show k / c*c+k % c=k by rw[Nat.mul_comm];exact Nat.div_add_mod k c]at h1;rw[h1];have hd:=hc d;simp only[madeCells,Array.toList_map,Array.toList_range,List.getElem?_map,List.getElem_replicate,List.size_toArray,hd];rw[List.getElem?_range hk];simp only[Option.map_some];rw[getElem!_pos _ _ (by simp[hd];exact hr),List.getElem?_eq_getElem om0];simp
 ·rw[List.getElem?_eq_none (by rw[Array.length_toList,size_madeCells];omega),List.getElem?_eq_none (by rw[zE hc];simp;omega)]
theorem V8{P:Program}{α:Type}{f:α→List Value}{d:α}{t e:TypeId}{c b:Nat}{z:Value}(hi:(P.info? e).map (fun i=>(i.zero,i.size,i.bytes))=some (some z,c,b))(hz:z.cells=(f d).toArray)(hu:P.underlying t=some (.slice e))(hc:∀x,(f x).length=c)(h0:0<c)(hb:b≤100000)(n:Nat)(hn:n≤100000)(w:World):
  (Instr.makeSlice t (.int .i64 n) (.int .i64 n)).run P w=.ok (.slice (some ⟨w.heap.size,0,none⟩) n n) (w.alloc (.cells ((List.replicate n d).flatMap f).toArray e)):=by
 cases hq:P.info? e with
 |none=>simp[hq]at hi
 |some i=>
  simp only[hq,Option.map_some,Option.some.injEq,Prod.mk.injEq]at hi;obtain⟨h1,h2,h3⟩:=hi;have hb1:i.bytes*n≤281474976710656:=by rw[h3];exact Nat.le_trans (Nat.mul_le_mul hb hn) dc0
  have h:=run_make w t e i z hu hq h1 .i64 .i64 n n om0 (Int.le_refl _) (by rw[←Int.natCast_mul];omega) om0;rw[Int.toNat_natCast,h2,hz,a5V hc h0 n]at h;rw[h]
end
open Go.RowKit Go.ChangeShapes Go.WideShapes Go.ChangeAt
set_option linter.unusedSimpArgs false
set_option linter.unusedVariables false
attribute [local go_sem] qn qZ A2 zg zz zA t5 qJ zf qO qD t6
section
theorem S0(h:NH)(n:Nd)(w:World)(hN:G0 w h n)(s1:h.n≤10000):Calls Tryz.prog 41 #[vN h] w fun e w'=>a6a w n e w':=by
 show Calls Tryz.prog 41 #[.agg (fN h).toArray] w fun e w'=>a6a w n e w'
 obtain⟨cs,hcs⟩:∃cs,fN h=cs:=⟨_,rfl⟩;have hc:cs.length=33:=by rw[←hcs];rfl
 have h1:∀v∈cs,v.oneCell'=true:=by rw[←hcs];exact aa4 h
 have hfar:cs[17]?=some (.slice h.ao h.n h.cap):=by rw[←hcs];exact ah1 h
 have hnil:h.ao=none→h.cap=0:=fun e=>(hN.nil e).2
 obtain⟨b,hb⟩:∃b,w.heap.size=b:=⟨_,rfl⟩;rw[hcs];go_enter Tryz.func41,Tryz.ntmps41;go_upto_region 1 with fail;refine qz (fun w'=>(∃y,w'=plus w y)∧w'.heap[b]?=some (.cells cs.toArray 56)∧(∃z:List Value,w'.heap[b+1]?=some (.cells z.toArray 56)∧z.length=33)∧w'.heap.size=b+2) ⟨sk9,hb▸qm (qc _ _),⟨_,by rw[←hb,←j8 w];exact qc _ _,rfl⟩,by rw[j8,j8,hb]⟩ ?_
 try simp only[hb]
 rintro w1 ⟨x1,k1,⟨z,k2,hz⟩,z1⟩;have p17:w1.cell? ⟨b,17,none⟩=some (.slice h.ao h.n h.cap):=k9 k1 hfar;have hl1:=hN.lay.ex x1;go_upto_region 2 with(go_at_call 83;refine(a7k _ _ _ n.far _ hl1 s1 hnil).mono ?_;rintro e w2 ⟨a1,m1,c1,rfl,hw2,o1⟩;have q17:=qf hw2 p17;have f17:w2.frozen? ⟨b,17,none⟩=false:=j9 (i7 hw2 k1));refine qz (fun w'=>(∃y,w'=plus w y)∧w'.heap[b]?=some (.cells (fN (a01 h a1 m1 c1)).toArray 56)∧w'.heap[b+1]?=some (.cells z.toArray 56)∧Own 3 1 fI w w' a1 m1 c1 n.far) ⟨qb (i9 x1 hw2) om0,by have:=y8 (i:=17) (u:=.slice a1 m1 c1) (i7 hw2 k1);rw[←hcs,a8o]at this;exact this,qj (i7 hw2 k2) om0,(o1.set_other (i7 hw2 k1) dc0).base om0⟩ ?_;rintro w4 ⟨x4,k5,k6,o5⟩;clear o1 p17 q17 f17 hl1;go_wp2_with (first|(refine wpList_load_row rfl 56 _ rfl b rfl _ _ _ _ k5 Tryz.underlying56 rfl kr0 ?_)|(refine j6 rfl 56 _ _ rfl (b+1) (fN (a01 h a1 m1 c1)) rfl rfl _ _ k6 kr0 (by rw[ag0];simpa using hz) (aa4 _) ?_));exact bodyPost_ret (v:=vN (a01 h a1 m1 c1)) (results_cell_row Tryz.results41 _ _ (b+1) 56 _ _ _ rfl (p9 k6) Tryz.underlying56 rfl kr0) rfl ⟨_,rfl,ql x4 om0,⟨hN.f,hN.b,o5.row_other k6 dc0⟩⟩
end
section
theorem a3t(n:Nat)(hn:n≤100000)(w:World):(Instr.makeSlice 28 (.int .i64 n) (.int .i64 n)).run Tryz.prog w=.ok (.slice (some ⟨w.heap.size,0,none⟩) n n) (w.alloc (.cells ((List.replicate n nh0).flatMap fN).toArray 56)):=
 V8 (z:=.agg (fN nh0).toArray) (c:=33) (b:=224) kr0 rfl Tryz.underlying28 ag0 dc0 dc0 n hn w
def a9l (w:World) (ns:List Nd) (n:Nat) (e:Ending) (w':World):Prop:=∃(ao':Option Addr) (cap':Nat) (hs':List NH),e=.returned (.slice ao' n cap')∧(∃y,w'=plus w y)∧Own 56 33 fN w w' ao' n cap' hs'∧(∀k,k<n→zV w w' (nth nh0 hs' k) (nth nd0 ns k))
theorem a1n(ao:Option Addr)(n cap:Nat)(hs:List NH)(ns:List Nd)(w:World)(hl:Lay fN w ao n hs)(hA:ae6 w hs ns)(hf:∀k,k<ns.length→al2 (nth nd0 ns k))(hn:n≤100000):
  Calls Tryz.prog 40 #[.slice ao n cap,.func (.func 41) #[] #[]] w fun e w'=>a9l w ns n e w':=by
 have hlen:=hl.len;have alen:=hA.len;have hmk:=a3t n hn;go_enter Tryz.func40,Tryz.ntmps40;go_wp2;go_loopw [13] (fun i wr=>∃(k:Nat) (hs':List NH),k≤n∧i=.int .i64 k∧(∃y,wr=plus w y)∧Own 56 33 fN w wr (some ⟨w.heap.size,0,none⟩) n n hs'∧(∀j,j<k→zV w wr (nth nh0 hs' j) (nth nd0 ns j))) (fun i _=>n - (intOf i).toNat)
 case atStart=>exact⟨0,List.replicate n nh0,Nat.zero_le _,rfl,sk9,Z9 (by simp) ag0 (by rw[qe,if_pos rfl]) (Nat.le_refl _) (Nat.le_trans hn dc0),fun j hj=>om0⟩
 case round=>
  obtain⟨k,hs',hk,rfl,hx,ok,orow⟩:=hrel;by_cases hkl:k<n
  ·have ik:(k:Int)<(n:Int):=om0;obtain⟨g1,o1,rfl,hg1,hc1⟩:=hl.some om0;have hp:=F5 (d:=nh0) hlen ag0 hc1 hkl;have aK:=hA.one k om0;have fK:(nth nh0 hs k).n≤10000:=by have h0:=hf k om0;have h2:=aK.lay.len;unfold al2 at h0;omega
   obtain⟨gb,cur,eb,hgb,hbb,hsz⟩:=ok.blk om0;cases eb;have lb:=qi hbb
   replace orow:=qw.mk orow
   replace ok:=qw.mk ok
   replace hp:=qw.mk hp
   obtain⟨q,hq⟩:∃q,wr.heap.size=q:=⟨_,rfl⟩;clear hc1;go_upto_region 5 with(first|(refine qY rfl 56 _ rfl g1 (o1+k*33) rfl (fN (nth nh0 hs k)) _ (fun j v hj=>qf (i9 hx sk9) (hp.it j v hj)) Tryz.underlying56 rfl kr0 ?_;simp only[Act.put,List.setIfInBounds_toArray,List.set_cons_succ,List.set_cons_zero])|(refine j6 rfl 56 _ _ rfl q (fN (nth nh0 hs k)) (by simp[go_sem,hq]) rfl _ _ (by rw[←hq];exact qc _ _) kr0 kr0 (aa4 _) ?_));refine qz (fun w'=>(∃y,w'=plus wr y)∧w'.heap[q]?=some (.cells (fN (nth nh0 hs k)).toArray 56)) ⟨ql sk9 om0,p9 (by rw[←hq];exact qc _ _)⟩ ?_
   try simp only[hq]
   rintro w2 ⟨x2,kq⟩;have lq:=qi kq;have aK:=aK.ex (i9 hx x2);go_wp2_with (first|(refine wpList_load_row rfl 56 _ rfl q rfl _ _ _ _ kq Tryz.underlying56 rfl kr0 ?_)|(go_at_call 41;refine(S0 (nth nh0 hs k) (nth nd0 ns k) _ (aK.ex sk9) fK).mono ?_;rintro e w3 ⟨h3,rfl,hx3,o3⟩)|(refine zu rfl 56 _ _ rfl w.heap.size (k*33) (fN h3) (by simp[go_sem]) rfl _ cur (i7 (i9 x2 hx3) hbb) kr0 ((ok.it.set_row hbb hkl ag0 h3).2) (aa4 _) ?_));go_roundw
   case rel=>
    refine⟨k+1,hs'.set k h3,by omega,by go_num,ql (i9 (i9 hx x2) hx3) (Nat.le_refl _),((ok.it.ex (i9 x2 hx3)).set_row (i7 (i9 x2 hx3) hbb) om0 ag0 h3).1,fun j hj=>?_⟩;have hsl:=ok.it.1;rw[qR om0];by_cases ej:j=k
    ·subst ej;rw[if_pos rfl];exact(o3.base (by have:=qu hx;have:=qu x2;omega)).row_other (i7 (i9 x2 hx3) hbb) dc0
    ·rw[if_neg ej];exact((orow.it j om0).ex (i9 x2 hx3)).row_other (i7 (i9 x2 hx3) hbb) dc0
   case measure=>simp[intOf];omega
  ·have ik:¬(k:Int)<(n:Int):=om0;obtain rfl:n=k:=om0;go_wp2;go_ret;exact⟨_,_,hs',rfl,i9 hx sk9,ok.ex sk9,fun j hj=>(orow j hj).ex sk9⟩
end
section
theorem a3d{h:MH}{hs:List PH}{m:Ms}{w:World}(a:I6 w h hs m)(f:a3y m):Calls Tryz.prog 43 #[.agg (fMh h).toArray] w fun e w'=>∃h' ps',e=.returned (.agg (fMh h').toArray)∧(∃y,w'=plus w y)∧zZ w w' h' ps' m:=by
 obtain⟨va,vn,vc,ua,un,uc,pa,pn,pc⟩:=h;have v:=a.vl.len;have u:=a.ul.len;have p:=a.pl.len;have q:=a.pp.len;simp only at v u p;obtain⟨f1,f2,f3,f4⟩:=f;refine(a3Y va ua pa vn vc un uc pn pc hs m w a (fun j hj=>?_) om0 om0 om0).mono ?_
 ·have h3:=(a.pp.one j hj).lay.len;have h4:=f4 j om0;omega
 ·rintro e w' ⟨h',ps',rfl,hw,ht,_⟩;exact⟨h',ps',rfl,hw,ht,fun k hk=>⟨(a.pp.one k om0).lo,(a.pp.one k om0).hi⟩⟩
theorem a4a(n:Nat)(hn:n≤100000)(w:World):(Instr.makeSlice 29 (.int .i64 n) (.int .i64 n)).run Tryz.prog w=.ok (.slice (some ⟨w.heap.size,0,none⟩) n n) (w.alloc (.cells ((List.replicate n mh0).flatMap fMh).toArray 61)):=
 V8 (z:=.agg (fMh mh0).toArray) (c:=3) (b:=72) kr0 rfl Tryz.underlying29 Z1 dc0 dc0 n hn w
def a9u (w:World) (ns:List Ms) (n:Nat) (e:Ending) (w':World):Prop:=∃(ao':Option Addr) (cap':Nat) (hs':List MH) (ps':List (List PH)),e=.returned (.slice ao' n cap')∧(∃y,w'=plus w y)∧Own 61 3 fMh w w' ao' n cap' hs'∧ps'.length=n∧(∀k,k<n→zZ w w' (nth mh0 hs' k) (nth [] ps' k) (nth ms0 ns k))
theorem a0k(ao:Option Addr)(n cap:Nat)(hs:List MH)(ps:List (List PH))(ns:List Ms)(w:World)(hl:Lay fMh w ao n hs)(hA:QC w hs ps ns)(hf:∀k,k<ns.length→a3y (nth ms0 ns k))(hn:n≤100000):
  Calls Tryz.prog 42 #[.slice ao n cap,.func (.func 43) #[] #[]] w fun e w'=>a9u w ns n e w':=by
 have hlen:=hl.len;have alen:=hA.len;have hmk:=a4a n hn;go_enter Tryz.func42,Tryz.ntmps42;go_wp2;go_loopw [13] (fun i wr=>∃(k:Nat) (hs':List MH) (ps':List (List PH)),k≤n∧i=.int .i64 k∧(∃y,wr=plus w y)∧ps'.length=n∧Own 61 3 fMh w wr (some ⟨w.heap.size,0,none⟩) n n hs'∧(∀j,j<k→zZ w wr (nth mh0 hs' j) (nth [] ps' j) (nth ms0 ns j))) (fun i _=>n - (intOf i).toNat)
 case atStart=>exact⟨0,List.replicate n mh0,List.replicate n [],Nat.zero_le _,rfl,sk9,by simp,Z9 (by simp) Z1 (by rw[qe,if_pos rfl]) (Nat.le_refl _) (Nat.le_trans hn dc0),fun j hj=>om0⟩
 case round=>
  obtain⟨k,hs',ps',hk,rfl,hx,pl',ok,orow⟩:=hrel;by_cases hkl:k<n
  ·have ik:(k:Int)<(n:Int):=om0;obtain⟨g1,o1,rfl,hg1,hc1⟩:=hl.some om0;have hp:=F5 (d:=mh0) hlen Z1 hc1 hkl;have aK:=hA.one k om0;have fK:=hf k om0;obtain⟨gb,cur,eb,hgb,hbb,hsz⟩:=ok.blk om0;cases eb;have lb:=qi hbb
   replace orow:=qw.mk orow
   replace ok:=qw.mk ok
   replace hp:=qw.mk hp
   obtain⟨q,hq⟩:∃q,wr.heap.size=q:=⟨_,rfl⟩;clear hc1;go_upto_region 5 with(first|(refine qY rfl 61 _ rfl g1 (o1+k*3) rfl (fMh (nth mh0 hs k)) _ (fun j v hj=>qf (i9 hx sk9) (hp.it j v hj)) Tryz.underlying61 rfl kr0 ?_;simp only[Act.put,List.setIfInBounds_toArray,List.set_cons_succ,List.set_cons_zero])|(refine j6 rfl 61 _ _ rfl q (fMh (nth mh0 hs k)) (by simp[go_sem,hq]) rfl _ _ (by rw[←hq];exact qc _ _) kr0 kr0 (a1G _) ?_));refine qz (fun w'=>(∃y,w'=plus wr y)∧w'.heap[q]?=some (.cells (fMh (nth mh0 hs k)).toArray 61)) ⟨ql sk9 om0,p9 (by rw[←hq];exact qc _ _)⟩ ?_
   try simp only[hq]
   rintro w2 ⟨x2,kq⟩;have lq:=qi kq;have aK:=aK.ex (i9 hx x2);go_wp2_with (first|(refine wpList_load_row rfl 61 _ rfl q rfl _ _ _ _ kq Tryz.underlying61 rfl kr0 ?_)|(go_at_call 43;refine(a3d (aK.ex sk9) fK).mono ?_;rintro e w3 ⟨h3,p3,rfl,hx3,o3⟩)|(refine zu rfl 61 _ _ rfl w.heap.size (k*3) (fMh h3) (by simp[go_sem]) rfl _ cur (i7 (i9 x2 hx3) hbb) kr0 ((ok.it.set_row hbb hkl Z1 h3).2) (a1G _) ?_));go_roundw
   case rel=>
    refine⟨k+1,hs'.set k h3,ps'.set k p3,om0,by go_num,ql (i9 (i9 hx x2) hx3) (Nat.le_refl _),by rw[List.length_set];exact pl',((ok.it.ex (i9 x2 hx3)).set_row (i7 (i9 x2 hx3) hbb) om0 Z1 h3).1,fun j hj=>?_⟩;have hsl:=ok.it.1;rw[qR om0,qR (d:=([]:List PH)) om0];by_cases ej:j=k
    ·subst ej;rw[if_pos rfl,if_pos rfl];exact(o3.base (by have:=qu hx;have:=qu x2;omega)).row_other (i7 (i9 x2 hx3) hbb) dc0 dc0 dc0 dc0
    ·rw[if_neg ej,if_neg ej];exact((orow.it j om0).ex (i9 x2 hx3)).row_other (i7 (i9 x2 hx3) hbb) dc0 dc0 dc0 dc0
   case measure=>simp[intOf];omega
  ·have ik:¬(k:Int)<(n:Int):=om0;obtain rfl:n=k:=om0;go_wp2;go_ret;exact⟨_,_,hs',ps',rfl,i9 hx sk9,ok.ex sk9,pl',fun j hj=>(orow j hj).ex sk9⟩
end
section
theorem a2C{h:TH}{m:Tp}{w:World}(a:ak5 w h m)(f:aa2 m):Calls Tryz.prog 45 #[.agg (fTh h).toArray] w fun e w'=>∃h',e=.returned (.agg (fTh h').toArray)∧(∃y,w'=plus w y)∧D0 w w' h' m:=by
 obtain⟨tw,th,ao,n,cap⟩:=h;have v:=a.tx.lay.len;have hnil:=a.tx.nil;simp only at v hnil;unfold aa2 at f;refine(a1C tw th ao n cap m.l w a.tx.lay om0 (fun e=>(hnil e).2)).mono ?_;rintro e w' ⟨ao',cap',rfl,hw,ho⟩;exact⟨⟨tw,th,ao',n,cap'⟩,rfl,hw,a.we,a.he,ho,fun k hk=>a.tx.ok k (by simp only;omega)⟩
theorem a3J(n:Nat)(hn:n≤100000)(w:World):(Instr.makeSlice 30 (.int .i64 n) (.int .i64 n)).run Tryz.prog w=.ok (.slice (some ⟨w.heap.size,0,none⟩) n n) (w.alloc (.cells ((List.replicate n th0).flatMap fTh).toArray 64)):=
 V8 (z:=.agg (fTh th0).toArray) (c:=3) (b:=40) kr0 rfl Tryz.underlying30 Z2 dc0 dc0 n hn w
def a9e (w:World) (ns:List Tp) (n:Nat) (e:Ending) (w':World):Prop:=∃(ao':Option Addr) (cap':Nat) (hs':List TH),e=.returned (.slice ao' n cap')∧(∃y,w'=plus w y)∧Own 64 3 fTh w w' ao' n cap' hs'∧(∀k,k<n→D0 w w' (nth th0 hs' k) (nth tp0 ns k))
theorem a0Z(ao:Option Addr)(n cap:Nat)(hs:List TH)(ns:List Tp)(w:World)(hl:Lay fTh w ao n hs)(hA:ac4 w hs ns)(hf:∀k,k<ns.length→aa2 (nth tp0 ns k))(hn:n≤100000):
  Calls Tryz.prog 44 #[.slice ao n cap,.func (.func 45) #[] #[]] w fun e w'=>a9e w ns n e w':=by
 have hlen:=hl.len;have alen:=hA.len;have hmk:=a3J n hn;go_enter Tryz.func44,Tryz.ntmps44;go_wp2;go_loopw [13] (fun i wr=>∃(k:Nat) (hs':List TH),k≤n∧i=.int .i64 k∧(∃y,wr=plus w y)∧Own 64 3 fTh w wr (some ⟨w.heap.size,0,none⟩) n n hs'∧(∀j,j<k→D0 w wr (nth th0 hs' j) (nth tp0 ns j))) (fun i _=>n - (intOf i).toNat)
 case atStart=>exact⟨0,List.replicate n th0,Nat.zero_le _,rfl,sk9,Z9 (by simp) Z2 (by rw[qe,if_pos rfl]) (Nat.le_refl _) (Nat.le_trans hn dc0),fun j hj=>om0⟩
 case round=>
  obtain⟨k,hs',hk,rfl,hx,ok,orow⟩:=hrel;by_cases hkl:k<n
  ·have ik:(k:Int)<(n:Int):=om0;obtain⟨g1,o1,rfl,hg1,hc1⟩:=hl.some om0;have hp:=F5 (d:=th0) hlen Z2 hc1 hkl;have aK:=hA.one k om0;have fK:=hf k om0;obtain⟨gb,cur,eb,hgb,hbb,hsz⟩:=ok.blk om0;cases eb;have lb:=qi hbb
   replace orow:=qw.mk orow
   replace ok:=qw.mk ok
   replace hp:=qw.mk hp
   obtain⟨q,hq⟩:∃q,wr.heap.size=q:=⟨_,rfl⟩;clear hc1;go_upto_region 5 with(first|(refine qY rfl 64 _ rfl g1 (o1+k*3) rfl (fTh (nth th0 hs k)) _ (fun j v hj=>qf (i9 hx sk9) (hp.it j v hj)) Tryz.underlying64 rfl kr0 ?_;simp only[Act.put,List.setIfInBounds_toArray,List.set_cons_succ,List.set_cons_zero])|(refine j6 rfl 64 _ _ rfl q (fTh (nth th0 hs k)) (by simp[go_sem,hq]) rfl _ _ (by rw[←hq];exact qc _ _) kr0 kr0 (a2l _) ?_));refine qz (fun w'=>(∃y,w'=plus wr y)∧w'.heap[q]?=some (.cells (fTh (nth th0 hs k)).toArray 64)) ⟨ql sk9 om0,p9 (by rw[←hq];exact qc _ _)⟩ ?_
   try simp only[hq]
   rintro w2 ⟨x2,kq⟩;have lq:=qi kq;have aK:=aK.ex (i9 hx x2);go_wp2_with (first|(refine wpList_load_row rfl 64 _ rfl q rfl _ _ _ _ kq Tryz.underlying64 rfl kr0 ?_)|(go_at_call 45;refine(a2C (aK.ex sk9) fK).mono ?_;rintro e w3 ⟨h3,rfl,hx3,o3⟩)|(refine zu rfl 64 _ _ rfl w.heap.size (k*3) (fTh h3) (by simp[go_sem]) rfl _ cur (i7 (i9 x2 hx3) hbb) kr0 ((ok.it.set_row hbb hkl Z2 h3).2) (a2l _) ?_));go_roundw
   case rel=>
    refine⟨k+1,hs'.set k h3,by omega,by go_num,ql (i9 (i9 hx x2) hx3) (Nat.le_refl _),((ok.it.ex (i9 x2 hx3)).set_row (i7 (i9 x2 hx3) hbb) om0 Z2 h3).1,fun j hj=>?_⟩;have hsl:=ok.it.1;rw[qR om0];by_cases ej:j=k
    ·subst ej;rw[if_pos rfl];exact(o3.base (by have:=qu hx;have:=qu x2;omega)).row_other (i7 (i9 x2 hx3) hbb) dc0
    ·rw[if_neg ej];exact((orow.it j om0).ex (i9 x2 hx3)).row_other (i7 (i9 x2 hx3) hbb) dc0
   case measure=>simp[intOf];omega
  ·have ik:¬(k:Int)<(n:Int):=om0;obtain rfl:n=k:=om0;go_wp2;go_ret;exact⟨_,_,hs',rfl,i9 hx sk9,ok.ex sk9,fun j hj=>(orow j hj).ex sk9⟩
end
section
def a1b (T w':World) (g:Gr) (n kn:Nat) (v:Value):Prop:=∃ao' cap' ko' kcap' hs',v=.agg #[.slice ao' n cap',.slice ko' kn kcap']∧zS T w' ao' n cap' ko' kn kcap' hs' g
def a3D (T w':World) (ns:List Nd) (n:Nat) (v:Value):Prop:=∃ao' cap' hs',v=.slice ao' n cap'∧Own 56 33 fN T w' ao' n cap' hs'∧(∀k,k<n→zV T w' (nth nh0 hs' k) (nth nd0 ns k))
def a3w (T w':World) (ns:List Ms) (n:Nat) (v:Value):Prop:=∃ao' cap' hs' ps',v=.slice ao' n cap'∧Own 61 3 fMh T w' ao' n cap' hs'∧ps'.length=n∧(∀k,k<n→zZ T w' (nth mh0 hs' k) (nth [] ps' k) (nth ms0 ns k))
def a3S (T w':World) (ns:List Tp) (n:Nat) (v:Value):Prop:=∃ao' cap' hs',v=.slice ao' n cap'∧Own 64 3 fTh T w' ao' n cap' hs'∧(∀k,k<n→D0 T w' (nth th0 hs' k) (nth tp0 ns k))
section
variable {T T' w w':World} {n kn:Nat} {v:Value}
theorem a1b.ex{g:Gr}(h:a1b T w g n kn v)(hw:∃y,w'=plus w y):a1b T w' g n kn v:=by
 obtain⟨a,c,k,kc,hs,h1,h2⟩:=h;exact⟨a,c,k,kc,hs,h1,h2.ex hw⟩
theorem a3D.ex{ns:List Nd}(h:a3D T w ns n v)(hw:∃y,w'=plus w y):a3D T w' ns n v:=by
 obtain⟨a,c,hs,h1,h2,h3⟩:=h;exact⟨a,c,hs,h1,h2.ex hw,fun k hk=>(h3 k hk).ex hw⟩
theorem a3w.ex{ns:List Ms}(h:a3w T w ns n v)(hw:∃y,w'=plus w y):a3w T w' ns n v:=by
 obtain⟨a,c,hs,ps,h1,h2,hl,h3⟩:=h;exact⟨a,c,hs,ps,h1,h2.ex hw,hl,fun k hk=>(h3 k hk).ex hw⟩
theorem a3S.ex{ns:List Tp}(h:a3S T w ns n v)(hw:∃y,w'=plus w y):a3S T w' ns n v:=by
 obtain⟨a,c,hs,h1,h2,h3⟩:=h;exact⟨a,c,hs,h1,h2.ex hw,fun k hk=>(h3 k hk).ex hw⟩
theorem a7K{g:Gr}{ns:List Nd}{ms:List Ms}{ts:List Tp}{r0 r1:Int}{gn kn nn mn tn:Nat}{vg vn vm vt:Value}(hg:a1b T w g gn kn vg)(hn:a3D T w ns nn vn)(hm:a3w T w ms mn vm)(ht:a3S T w ts tn vt)(l1:ns.length=nn)(l2:ms.length=mn)(l3:ts.length=tn):
  ∃(h:SH) (x:SX),vg=.agg #[.slice h.ga h.gn h.gc,.slice h.ka h.kn h.kc]∧vn=.slice h.na h.nn h.nc∧vm=.slice h.ma h.mn h.mc∧vt=.slice h.ta h.tn h.tc∧r0=h.r0∧r1=h.r1∧zi T w h x ⟨g,ns,ms,ts,(r0,r1)⟩:=by
 obtain⟨a1,c1,k1,kc1,hs1,rfl,o1⟩:=hg;obtain⟨a2,c2,hs2,rfl,o2,p2⟩:=hn;obtain⟨a3,c3,hs3,ps3,rfl,o3,l4,p3⟩:=hm;obtain⟨a4,c4,hs4,rfl,o4,p4⟩:=ht;have n2:=o2.1;have n3:=o3.1;have n4:=o4.1;exact⟨⟨a1,gn,c1,k1,kn,kc1,a2,nn,c2,a3,mn,c3,a4,tn,c4,r0,r1⟩,⟨hs1,hs2,hs3,ps3,hs4⟩,rfl,rfl,rfl,rfl,rfl,rfl,⟨o1,o2,by simp only;omega,fun k hk=>p2 k (by simp only at hk;omega),o3,by simp only;omega,fun k hk=>p3 k (by simp only at hk;omega),o4,by simp only;omega,fun k hk=>p4 k (by simp only at hk;omega),rfl,by simp only;omega⟩⟩
end
def teS (i:Nat):List Nat:=match i with|0=>[3]|1=>[4]|2=>[5]|3=>[6]|4=>[7]|5=>[8]|6=>[9]|7=>[10]|8=>[11]|9=>[12]|10=>[13]|11=>[14]|12=>[15]|13=>[16]|14=>[17,5,8,11,14]|_=>[]
def teΦ (W:World) (b:Nat) (ga ka na ma ta:Option Addr) (gn gc kn kc nn nc mn mc tn tc:Nat) (r0 r1:Int) (sg:Gr) (sn:List Nd) (sm:List Ms) (st:List Tp) (i:Nat) (t:Nat→Value) (w':World):Prop:=match i with
 |0=>t 3=.pointer (some ⟨b,0,none⟩)
 |1=>t 4=.agg #[.slice ga gn gc,.slice ka kn kc]
 |2=>a1b W w' sg gn kn (t 5)
 |3=>t 6=.pointer (some ⟨b,2,none⟩)
 |4=>t 7=.slice na nn nc
 |5=>a3D W w' sn nn (t 8)
 |6=>t 9=.pointer (some ⟨b,3,none⟩)
 |7=>t 10=.slice ma mn mc
 |8=>a3w W w' sm mn (t 11)
 |9=>t 12=.pointer (some ⟨b,4,none⟩)
 |10=>t 13=.slice ta tn tc
 |11=>a3S W w' st tn (t 14)
 |12=>t 15=.pointer (some ⟨b,5,none⟩)
 |13=>t 16=.agg #[.int .i64 r0,.int .i64 r1]
 |14=>∃a1 a2 v3 v4 v5,t 17=.agg #[a1,a2,v3,v4,v5,.int .i64 r0,.int .i64 r1]∧t 5=.agg #[a1,a2]∧t 8=v3∧t 11=v4∧t 14=v5
 |_=>True
theorem a62(W:World)(b:Nat)(ga ka na ma ta:Option Addr)(gn gc kn kc nn nc mn mc tn tc:Nat)(r0 r1:Int)(sg:Gr)(sn:List Nd)(sm:List Ms)(st:List Tp):∀i t t' w' x,teΦ W b ga ka na ma ta gn gc kn kc nn nc mn mc tn tc r0 r1 sg sn sm st i t w'→(∀s∈teS i,t' s=t s)→teΦ W b ga ka na ma ta gn gc kn kc nn nc mn mc tn tc r0 r1 sg sn sm st i t' (plus w' x):=by
 intro i t t' w' x h hs'
 match i with
 |0=>exact(hs' 3 dc0).trans h
 |1=>exact(hs' 4 dc0).trans h
 |2=>have:=h.ex ⟨x,rfl⟩;rw[←hs' 5 dc0]at this;exact this
 |3=>exact(hs' 6 dc0).trans h
 |4=>exact(hs' 7 dc0).trans h
 |5=>have:=h.ex ⟨x,rfl⟩;rw[←hs' 8 dc0]at this;exact this
 |6=>exact(hs' 9 dc0).trans h
 |7=>exact(hs' 10 dc0).trans h
 |8=>have:=h.ex ⟨x,rfl⟩;rw[←hs' 11 dc0]at this;exact this
 |9=>exact(hs' 12 dc0).trans h
 |10=>exact(hs' 13 dc0).trans h
 |11=>have:=h.ex ⟨x,rfl⟩;rw[←hs' 14 dc0]at this;exact this
 |12=>exact(hs' 15 dc0).trans h
 |13=>exact(hs' 16 dc0).trans h
 |14=>obtain⟨a1,a2,v3,v4,v5,e0,e1,e2,e3,e4⟩:=h;exact⟨a1,a2,v3,v4,v5,(hs' 17 dc0).trans e0,(hs' 5 dc0).trans e1,(hs' 8 dc0).trans e2,(hs' 11 dc0).trans e3,(hs' 14 dc0).trans e4⟩
 |i+15=>trivial
theorem a0m(h:SH)(xs:SX)(s:Sc)(w:World)(hA:Zu w h xs s):Calls Tryz.prog 15 #[vS h] w fun e w'=>a89 w s e w':=by
 have lnn:=hA.nn.1;have lmn:=hA.mn.1;have ltn:=hA.tn.1;have hG:=hA.g;have hR:=hA.r;have f:=hA.f;have b1:=f.nn;have b2:=f.mn;have b3:=f.tn;have hroot:=hR.root;obtain⟨sg,sn,sm,st,sr⟩:=s;obtain⟨ga,gn,gc,ka,kn,kc,na,nn,nc,ma,mn,mc,ta,tn,tc,r0,r1⟩:=h;simp only at lnn lmn ltn hG b1 b2 b3 hroot;subst hroot;unfold vS;simp only;go_enter Tryz.func15,Tryz.ntmps15;go_wp2;refine qz (fun w'=>(∃y,w'=plus w y)∧w'.heap[w.heap.size]?=some (.cells #[.slice ga gn gc,.slice ka kn kc,.slice na nn nc,.slice ma mn mc,.slice ta tn tc,.int .i64 r0,.int .i64 r1] 34)∧(∃z:List Value,w'.heap[w.heap.size+1]?=some (.cells z.toArray 34)∧z.length=7)∧w'.heap.size=w.heap.size+2) ⟨sk9,qm (qc _ _),⟨_,by rw[←j8 w];exact qc _ _,rfl⟩,by rw[j8,j8]⟩ ?_;rintro W ⟨x1,k1,⟨z,k2,hz⟩,z1⟩;obtain⟨b,hb⟩:∃b,w.heap.size=b:=⟨_,rfl⟩;simp only[hb]at k1 k2 z1 ⊢;have c0:=i6 (i:=0) k1 rfl;have c1:=i6 (i:=1) k1 rfl;have c2:=i6 (i:=2) k1 rfl;have c3:=i6 (i:=3) k1 rfl;have c4:=i6 (i:=4) k1 rfl;have c5:=i6 (i:=5) k1 rfl;have c6:=i6 (i:=6) k1 rfl;have hG1:=hG.ex x1;have hR1:=hR.ex x1;refine M6 15 teS (teΦ W b ga ka na ma ta gn gc kn kc nn nc mn mc tn tc r0 r1 sg sn sm st) kr0 kr0 rfl (a62 W b ga ka na ma ta gn gc kn kc nn nc mn mc tn tc r0 r1 sg sn sm st) ?steps ?fin
 case steps=>
  refine⟨?_,?_,?_,?_,?_,?_,?_,?_,?_,?_,?_,?_,?_,?_,?_,trivial⟩<;>intro a w' hg hfree hdeep<;>obtain⟨x,rfl⟩:=hg
  ·have f1_:=hfree 1 kr0;simp only[teΦ,got]at f1_;simp[go_sem]at f1_;unfold Oper.wp;simp[go_sem,execOp,Act.eval,↓IntWalk.iteOmega,f1_];exact⟨_,rfl,j5 _,by simp[teΦ,upd]⟩
  ·have d0:=hdeep 0 kr0;simp only[teΦ,got]at d0;have d_0:=qf ⟨x,rfl⟩ c0;have d_1:=qf ⟨x,rfl⟩ c1;unfold Oper.wp;simp[go_sem,execOp,Act.eval,↓IntWalk.iteOmega,d0,d_0,d_1];exact⟨_,rfl,j5 _,by simp[teΦ,upd]⟩
  ·have d1:=hdeep 1 kr0;simp only[teΦ,got]at d1;unfold Oper.wp;simp[go_sem,execOp,Act.eval,↓IntWalk.iteOmega,d1];refine(a1U _ _ _ _ _ _ xs.gr sg _ (hG1.ex sk9)).mono ?_;rintro e w2 ⟨a1,c1',k1',kc1,hs1,rfl,hw2,o1⟩;exact⟨_,rfl,hw2,by simp only[teΦ,upd];simp;exact⟨a1,c1',k1',kc1,hs1,rfl,o1.base (by rw[qn];omega)⟩⟩
  ·have f1_:=hfree 1 kr0;simp only[teΦ,got]at f1_;simp[go_sem]at f1_;unfold Oper.wp;simp[go_sem,execOp,Act.eval,↓IntWalk.iteOmega,f1_];exact⟨_,rfl,j5 _,by simp[teΦ,upd]⟩
  ·have d3:=hdeep 3 kr0;simp only[teΦ,got]at d3;have d_2:=qf ⟨x,rfl⟩ c2;unfold Oper.wp;simp[go_sem,execOp,Act.eval,↓IntWalk.iteOmega,d3,d_2];exact⟨_,rfl,j5 _,by simp[teΦ,upd]⟩
  ·have d4:=hdeep 4 kr0;simp only[teΦ,got]at d4;unfold Oper.wp;simp[go_sem,execOp,Act.eval,↓IntWalk.iteOmega,d4];refine(a1n _ nn _ xs.nh sn _ (hR1.nl.ex sk9) (hR1.ns.ex sk9) f.ns om0).mono ?_;rintro e w2 ⟨a1,c1',hs1,rfl,hw2,o1,p1⟩;exact⟨_,rfl,hw2,by simp only[teΦ,upd];simp;exact⟨a1,c1',hs1,rfl,o1.base (by rw[qn];omega),fun k hk=>(p1 k hk).base (by rw[qn];omega)⟩⟩
  ·have f1_:=hfree 1 kr0;simp only[teΦ,got]at f1_;simp[go_sem]at f1_;unfold Oper.wp;simp[go_sem,execOp,Act.eval,↓IntWalk.iteOmega,f1_];exact⟨_,rfl,j5 _,by simp[teΦ,upd]⟩
  ·have d6:=hdeep 6 kr0;simp only[teΦ,got]at d6;have d_3:=qf ⟨x,rfl⟩ c3;unfold Oper.wp;simp[go_sem,execOp,Act.eval,↓IntWalk.iteOmega,d6,d_3];exact⟨_,rfl,j5 _,by simp[teΦ,upd]⟩
  ·have d7:=hdeep 7 kr0;simp only[teΦ,got]at d7;unfold Oper.wp;simp[go_sem,execOp,Act.eval,↓IntWalk.iteOmega,d7];refine(a0k _ mn _ xs.mh xs.ph sm _ (hR1.ml.ex sk9) (hR1.ms.ex sk9) f.ms om0).mono ?_;rintro e w2 ⟨a1,c1',hs1,ps1,rfl,hw2,o1,l1,p1⟩;exact⟨_,rfl,hw2,by simp only[teΦ,upd];simp;exact⟨a1,c1',hs1,ps1,rfl,o1.base (by rw[qn];omega),l1,fun k hk=>(p1 k hk).base (by rw[qn];omega)⟩⟩
  ·have f1_:=hfree 1 kr0;simp only[teΦ,got]at f1_;simp[go_sem]at f1_;unfold Oper.wp;simp[go_sem,execOp,Act.eval,↓IntWalk.iteOmega,f1_];exact⟨_,rfl,j5 _,by simp[teΦ,upd]⟩
  ·have d9:=hdeep 9 kr0;simp only[teΦ,got]at d9;have d_4:=qf ⟨x,rfl⟩ c4;unfold Oper.wp;simp[go_sem,execOp,Act.eval,↓IntWalk.iteOmega,d9,d_4];exact⟨_,rfl,j5 _,by simp[teΦ,upd]⟩
  ·have d10:=hdeep 10 kr0;simp only[teΦ,got]at d10;unfold Oper.wp;simp[go_sem,execOp,Act.eval,↓IntWalk.iteOmega,d10];refine(a0Z _ tn _ xs.th st _ (hR1.tl.ex sk9) (hR1.ts.ex sk9) f.ts om0).mono ?_;rintro e w2 ⟨a1,c1',hs1,rfl,hw2,o1,p1⟩;exact⟨_,rfl,hw2,by simp only[teΦ,upd];simp;exact⟨a1,c1',hs1,rfl,o1.base (by rw[qn];omega),fun k hk=>(p1 k hk).base (by rw[qn];omega)⟩⟩
  ·have f1_:=hfree 1 kr0;simp only[teΦ,got]at f1_;simp[go_sem]at f1_;unfold Oper.wp;simp[go_sem,execOp,Act.eval,↓IntWalk.iteOmega,f1_];exact⟨_,rfl,j5 _,by simp[teΦ,upd]⟩
  ·have d12:=hdeep 12 kr0;simp only[teΦ,got]at d12;have d_5:=qf ⟨x,rfl⟩ c5;have d_6:=qf ⟨x,rfl⟩ c6;unfold Oper.wp;simp[go_sem,execOp,Act.eval,↓IntWalk.iteOmega,d12,d_5,d_6];exact⟨_,rfl,j5 _,by simp[teΦ,upd]⟩
  ·obtain⟨a1,c1',k1',kc1,hs1,e5,_⟩:a1b W _ sg gn kn (got a 5):=hdeep 2 kr0;obtain⟨a2,c2',hs2,e8,_⟩:a3D W _ sn nn (got a 8):=hdeep 5 kr0;obtain⟨a3,c3',hs3,ps3,e11,_⟩:a3w W _ sm mn (got a 11):=hdeep 8 kr0;obtain⟨a4,c4',hs4,e14,_⟩:a3S W _ st tn (got a 14):=hdeep 11 kr0;have e16:got a 16=.agg #[.int .i64 r0,.int .i64 r1]:=hdeep 13 kr0;have g5:=e5;have g8:=e8;have g11:=e11;have g14:=e14;have g16:=e16;simp only[got]at g5 g8 g11 g14 g16;simp at g5 g8 g11 g14 g16;unfold Oper.wp;simp[go_sem,execOp,Act.eval,↓IntWalk.iteOmega,g5,g8,g11,g14,g16];exact⟨_,rfl,j5 _,.slice a1 gn c1',.slice k1' kn kc1,.slice a2 nn c2',.slice a3 mn c3',.slice a4 tn c4',by simp[upd],by simp[upd];exact e5,by simp[upd];exact e8,by simp[upd];exact e11,by simp[upd];exact e14⟩
 case fin=>
  rintro t w1 hg hΦ o ho;have hr:=hΦ 13 dc0;obtain⟨a1,a2,v3,v4,v5,e17,e5,e8,e11,e14⟩:=hΦ 14 dc0;obtain⟨h',x',q1,q2,q3,q4,q5,q6,own⟩:=a7K (r0:=r0) (r1:=r1) (hΦ 2 dc0) (hΦ 5 dc0) (hΦ 8 dc0) (hΦ 11 dc0) lnn lmn ltn;rw[q1]at e5;rw[q2]at e8;rw[q3]at e11;rw[q4]at e14;cases e5;subst e8 e11 e14 q5 q6;clear hΦ hr;have kb:=i7 hg k2;have kr:=p9 (cs:=(qa h').toArray) kb;simp only[List.getElem?_cons_succ,List.getElem?_cons_zero,Option.some.injEq]at ho;subst ho;simp only[zh,List.take_succ_cons,List.take_zero];simp only[Act.put];simp only[List.setIfInBounds_toArray,List.set_cons_succ,List.set_cons_zero];refine wp_store_row 34 _ _ rfl (b+1) (qa h').toArray rfl e17 _ _ kb kr0 (by simpa [qa]using hz) (Array.all_eq_true_iff_forall_mem.2 fun v hv=>qX _ v (by simpa using hv)) ?_;have hx2:=ql (cs:=(qa h').toArray) (i9 x1 hg) (g:=b+1) om0;have own2:=(own.row_out (cs:=(qa h').toArray) (g:=b+1) om0).base (T':=w) om0;generalize w1.setRow (b+1) (qa h').toArray=w2 at*;go_wp2;exact bodyPost_ret (v:=vS h') (results_cell_row Tryz.results15 _ _ (b+1) 34 _ _ _ rfl kr Tryz.underlying34 rfl kr0) rfl ⟨h',x',rfl,hx2,own2⟩
end
section
open Go.RowKit
section
variable {T w w1:World} {h:SH} {x:SX} {s:Sc} {ao':Option Addr} {cap':Nat}
theorem zV.grown{e:TypeId}{c:Nat}{α:Type}{f:α→List Value}{ao:Option Addr}{n cap:Nat}{l:List α}{hn:NH}{nd:Nd}(hgr:w.grownBy w1 (Value.ownBlock (.slice ao n cap)))(hown:Own e c f T w ao n cap l)(a:zV T w hn nd)(he:3≠e):zV T w1 hn nd:=
 ⟨a.f,a.b,zj hgr hown a.far he⟩
theorem zZ.grown{e:TypeId}{c:Nat}{α:Type}{f:α→List Value}{ao:Option Addr}{n cap:Nat}{l:List α}{hm:MH}{hs:List PH}{m:Ms}(hgr:w.grownBy w1 (Value.ownBlock (.slice ao n cap)))(hown:Own e c f T w ao n cap l)(a:zZ T w hm hs m)(h1:43≠e)(h2:137≠e)(h3:131≠e)(h4:3≠e):zZ T w1 hm hs m:=
 ⟨⟨zj hgr hown a.t.v h1,zj hgr hown a.t.u h2,zj hgr hown a.t.p h3,a.t.len,a.t.kind,fun k hk=>zj hgr hown (a.t.ix k hk) h4⟩,a.b⟩
theorem D0.grown{e:TypeId}{c:Nat}{α:Type}{f:α→List Value}{ao:Option Addr}{n cap:Nat}{l:List α}{ht:TH}{t:Tp}(hgr:w.grownBy w1 (Value.ownBlock (.slice ao n cap)))(hown:Own e c f T w ao n cap l)(a:D0 T w ht t)(h1:50≠e):D0 T w1 ht t:=
 ⟨a.we,a.he,zj hgr hown a.tx h1,a.ok⟩
theorem zS.grown{e:TypeId}{c:Nat}{α:Type}{f:α→List Value}{ao:Option Addr}{n cap:Nat}{l:List α}{ga ko:Option Addr}{gn gc kn kc:Nat}{hs:List RH}{g:Gr}(hgr:w.grownBy w1 (Value.ownBlock (.slice ao n cap)))(hown:Own e c f T w ao n cap l)(a:zS T w ga gn gc ko kn kc hs g)(h1:86≠e)(h2:88≠e)(h3:32≠e):zS T w1 ga gn gc ko kn kc hs g:=
 ⟨zj hgr hown a.sl h1,zj hgr hown a.kh h2,a.len,fun k hk=>zj hgr hown (a.row k hk) h3⟩
theorem ZN{α:Type}{d:α}{l:List α}{y:α}{k:Nat}:nth d (l++[y]) k=if k=l.length then y else nth d l k:=by
 split
 ·rename_i e;subst e;rw[zG (Nat.le_refl _),Nat.sub_self];rfl
 ·by_cases hk:k<l.length
  ·rw[zB hk]
  ·rw[Q5 (l:=l) om0,Q5 (by simp;omega)]
theorem zi.appNode(a:zi T w h x s){hn:NH}{n:Nd}(o:zV T w hn n)(hgr:w.grownBy w1 (Value.ownBlock (.slice h.na h.nn h.nc)))(on:Own 56 33 fN T w1 ao' (h.nn+1) cap' (x.nh++[hn])):
  zi T w1 ⟨h.ga,h.gn,h.gc,h.ka,h.kn,h.kc,ao',h.nn+1,cap',h.ma,h.mn,h.mc,h.ta,h.tn,h.tc,h.r0,h.r1⟩ ⟨x.gr,x.nh++[hn],x.mh,x.ph,x.th⟩ ⟨s.g,s.ns++[n],s.ms,s.ts,s.root⟩:=by
 have n1:=a.nl.1;have n2:=a.nlen;refine⟨a.g.grown hgr a.nl dc0 dc0 dc0,on,by simp only[List.length_append,List.length_cons,List.length_nil];omega,fun j hj=>?_,zj hgr a.nl a.ml dc0,a.mlen,fun k hk=>(a.ms k hk).grown hgr a.nl dc0 dc0 dc0 dc0,zj hgr a.nl a.tl dc0,a.tlen,fun k hk=>(a.ts k hk).grown hgr a.nl dc0,a.root,a.pl⟩;simp only[List.length_append,List.length_cons,List.length_nil]at hj ⊢;rw[ZN,ZN,n2];split
 ·exact o.grown hgr a.nl dc0
 ·exact(a.ns j om0).grown hgr a.nl dc0
theorem zi.appMesh(a:zi T w h x s){hm:MH}{hs:List PH}{m:Ms}(o:zZ T w hm hs m)(hgr:w.grownBy w1 (Value.ownBlock (.slice h.ma h.mn h.mc)))(on:Own 61 3 fMh T w1 ao' (h.mn+1) cap' (x.mh++[hm])):
  zi T w1 ⟨h.ga,h.gn,h.gc,h.ka,h.kn,h.kc,h.na,h.nn,h.nc,ao',h.mn+1,cap',h.ta,h.tn,h.tc,h.r0,h.r1⟩ ⟨x.gr,x.nh,x.mh++[hm],x.ph++[hs],x.th⟩ ⟨s.g,s.ns,s.ms++[m],s.ts,s.root⟩:=by
 have n1:=a.ml.1;have n2:=a.mlen;have n3:=a.pl;refine⟨a.g.grown hgr a.ml dc0 dc0 dc0,zj hgr a.ml a.nl dc0,a.nlen,fun k hk=>(a.ns k hk).grown hgr a.ml dc0,on,by simp only[List.length_append,List.length_cons,List.length_nil];omega,fun j hj=>?_,zj hgr a.ml a.tl dc0,a.tlen,fun k hk=>(a.ts k hk).grown hgr a.ml dc0,a.root,by simp only[List.length_append,List.length_cons,List.length_nil];omega⟩;simp only[List.length_append,List.length_cons,List.length_nil]at hj ⊢;rw[ZN,ZN,ZN,n3,n2];split
 ·exact o.grown hgr a.ml dc0 dc0 dc0 dc0
 ·exact(a.ms j om0).grown hgr a.ml dc0 dc0 dc0 dc0
theorem zi.appTex(a:zi T w h x s){ht:TH}{t:Tp}(o:D0 T w ht t)(hgr:w.grownBy w1 (Value.ownBlock (.slice h.ta h.tn h.tc)))(on:Own 64 3 fTh T w1 ao' (h.tn+1) cap' (x.th++[ht])):
  zi T w1 ⟨h.ga,h.gn,h.gc,h.ka,h.kn,h.kc,h.na,h.nn,h.nc,h.ma,h.mn,h.mc,ao',h.tn+1,cap',h.r0,h.r1⟩ ⟨x.gr,x.nh,x.mh,x.ph,x.th++[ht]⟩ ⟨s.g,s.ns,s.ms,s.ts++[t],s.root⟩:=by
 have n1:=a.tl.1;have n2:=a.tlen;refine⟨a.g.grown hgr a.tl dc0 dc0 dc0,zj hgr a.tl a.nl dc0,a.nlen,fun k hk=>(a.ns k hk).grown hgr a.tl dc0,zj hgr a.tl a.ml dc0,a.mlen,fun k hk=>(a.ms k hk).grown hgr a.tl dc0 dc0 dc0 dc0,on,by simp only[List.length_append,List.length_cons,List.length_nil];omega,fun j hj=>?_,a.root,a.pl⟩;simp only[List.length_append,List.length_cons,List.length_nil]at hj ⊢;rw[ZN,ZN,n2];split
 ·exact o.grown hgr a.tl dc0
 ·exact(a.ts j om0).grown hgr a.tl dc0
end
end
section
theorem af0(h:NH)(n:Nd)(w:World)(hN:G0 w h n)(s1:h.n≤10000):Calls Tryz.prog 36 #[vN h] w fun e w'=>a6a w n e w':=by
 show Calls Tryz.prog 36 #[.agg (fN h).toArray] w fun e w'=>a6a w n e w'
 obtain⟨cs,hcs⟩:∃cs,fN h=cs:=⟨_,rfl⟩;have hc:cs.length=33:=by rw[←hcs];rfl
 have hsz:cs.toArray.size=33:=by simpa using hc
 have h1:∀v∈cs,v.oneCell'=true:=by rw[←hcs];exact aa4 h
 have hfar:cs[17]?=some (.slice h.ao h.n h.cap):=by rw[←hcs];exact ah1 h
 obtain⟨b,hb⟩:∃b,w.heap.size=b:=⟨_,rfl⟩;rw[hcs];go_enter Tryz.func36,Tryz.ntmps36;go_upto_region 1 with fail;refine qz (fun w'=>(∃y,w'=plus w y)∧w'.heap[b]?=some (.cells cs.toArray 56)∧(∃z:List Value,w'.heap[b+1]?=some (.cells z.toArray 56)∧z.length=33)∧w'.heap.size=b+2) ⟨sk9,hb▸qm (qc _ _),⟨_,by rw[←hb,←j8 w];exact qc _ _,rfl⟩,by rw[j8,j8,hb]⟩ ?_
 try simp only[hb]
 rintro w1 ⟨x1,k1,⟨z,k2,hz⟩,z1⟩;have p17:w1.frozen? ⟨b,17,none⟩=false:=j9 k1;go_upto_region 2 with(first|(refine wpList_load_row rfl 56 _ rfl b rfl _ _ _ _ k1 Tryz.underlying56 rfl (by rw[hsz];kernel_rfl) ?_)|(refine j6 rfl 56 _ _ rfl (b+2) cs (by simp[go_sem,z1]) rfl _ _ (by rw[←z1];exact qc _ _) (by rw[hc];kernel_rfl) (by simp[hc]) h1 ?_));refine qz (fun w'=>(∃y,w'=plus w1 y)∧w'.heap[b+2]?=some (.cells cs.toArray 56)∧w'.heap.size=b+3) ⟨ql sk9 om0,by first|exact p9 (by rw[←z1];exact qc _ _)|(rw[←z1];exact p9 (qc _ _)),by rw[setRow_size,j8,z1]⟩ ?_;rintro w2 ⟨x2,k3,z2⟩;have q17:w2.cell? ⟨b+2,17,none⟩=some (.slice h.ao h.n h.cap):=k9 k3 hfar;have f17:w2.frozen? ⟨b+2,17,none⟩=false:=j9 k3;go_upto_region 3 with fail;refine qz (fun w'=>(∃y,w'=plus w1 y)∧w'.heap[b+2]?=some (.cells (cs.set 17 (.slice none 0 0)).toArray 56)∧w'.heap.size=b+3) ⟨qb x2 om0,y8 k3,by rw[B9,z2]⟩ ?_;rintro w3 ⟨x3,k4,z3⟩;have c3:(cs.set 17 (.slice none 0 0)).length=33:=by rw[List.length_set,hc]
 have r17:w3.cell? ⟨b+2,17,none⟩=some (.slice none 0 0):=k9 k4 (by rw[List.getElem?_set_self om0]);have r1:w3.cell? ⟨b,17,none⟩=some (.slice h.ao h.n h.cap):=qf x3 (k9 k1 hfar);have hl3:=hN.lay.ex (i9 x1 x3);go_upto_region 4 with(at_builtin;(refine qo (T:=w3) (l:=[]) rfl _ _ rfl a9c a8K a8Y rfl (j5 _) zd rfl hl3 om0 dc0 ?_;intro ao' cap' y' hown';rw[Nat.zero_add,List.nil_append]at hown';have s17:=qf ⟨y',rfl⟩ r17;have t17:(plus w3 y').frozen? ⟨b+2,17,none⟩=false:=j9 (i7 ⟨y',rfl⟩ k4)));refine qz (fun w'=>(∃y,w'=plus w y)∧w'.heap[b+2]?=some (.cells (fN (a01 h ao' h.n cap')).toArray 56)∧w'.heap[b+1]?=some (.cells z.toArray 56)∧Own 3 1 fI w w' ao' h.n cap' n.far) ⟨zt (qb (i9 x1 x3) om0),i7 ⟨y',rfl⟩ (by have:=y8 (i:=17) (u:=.slice ao' h.n cap') k4;rw[←hcs,a6s]at this;exact this),i7 ⟨y',rfl⟩ (qj (i7 x3 k2) om0),(hown'.swap (T':=w3.setCell ⟨b+2,17,none⟩ (.slice ao' h.n cap')) (B9 _ _ _ _)).base (by rw[B9];omega)⟩ ?_;rintro w4 ⟨x4,k5,k6,o5⟩;clear hown' r17 r1 q17 p17 hl3;go_wp2_with (first|(refine wpList_load_row rfl 56 _ rfl (b+2) rfl _ _ _ _ k5 Tryz.underlying56 rfl kr0 ?_)|(refine j6 rfl 56 _ _ rfl (b+1) (fN (a01 h ao' h.n cap')) rfl rfl _ _ k6 kr0 (by rw[ag0];simpa using hz) (aa4 _) ?_));exact bodyPost_ret (v:=vN (a01 h ao' h.n cap')) (results_cell_row Tryz.results36 _ _ (b+1) 56 _ _ _ rfl (p9 k6) Tryz.underlying56 rfl kr0) rfl ⟨_,rfl,ql x4 om0,⟨hN.f,hN.b,o5.row_other k6 dc0⟩⟩
end
end Go.Proofs.YtcekcihijdipoaaGreat
