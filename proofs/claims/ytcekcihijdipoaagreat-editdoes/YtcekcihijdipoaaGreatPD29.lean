/- A pack of texts: EdPut, EdDo1, EdDo2, EdTk, Nodes10. -/
import Derived.Great.BuildSlice
import Derived.Test.YtcekcihijdipoaaGreatPD28
namespace Go.Proofs.YtcekcihijdipoaaGreat
set_option maxRecDepth 100000
set_option maxHeartbeats 16000000
open Go.RowKit Go.ChangeShapes Go.WideShapes Go.ChangeAt
set_option linter.unusedSimpArgs false
set_option linter.unusedVariables false
attribute [local go_sem] qn qZ A2 zg zz zA t5 qJ zf qO qD t6
section
theorem E0{P:Program}{ops:Array Oper}{rest:List Oper}{o:Oper}{a:Act}{w:World}{Q:Exit→Act→World→Prop}(hg:o.guard=none)(t e:TypeId)(y:Operand)(ho:o.op=.buildSlice t 1 #[(0,y)])(cs:List Value)(hy:a.eval y=.agg cs.toArray)
  (hu:P.underlying t=some (.slice e)) {z:Value} {c b:Nat} (hi:(P.info? e).map (fun i=>(i.zero,i.size,i.bytes))=some (some z,c,b)) (hc:cs.length=c) (h0:0<c) (h1:c≤1000)
  (h:wpList P ops Q rest (a.put o.dst (.slice (some ⟨w.heap.size,0,none⟩) 1 1)) (w.alloc (.cells cs.toArray e))):wpList P ops Q (o::rest) a w:=by
 cases hq:P.info? e with
 |none=>simp[hq]at hi
 |some i=>
  simp only[hq,Option.map_some,Option.some.injEq,Prod.mk.injEq]at hi;obtain⟨i1,i2,i3⟩:=hi;refine wpList_buildSlice hg t e 1 _ ho cs.toArray i z hu hq i1 (by rw[i2];omega) (by rw[i2];omega) ?_ h;have hsz:((Array.range (1*i.size)).map (z.cells[·% z.cells.size]!)).size=c:=by simp[i2]
  generalize ((Array.range (1*i.size)).map (z.cells[·% z.cells.size]!))=Z at hsz ⊢;have hf:=ai4 cs Z (by rw[hsz,hc]);simp only[List.map_toArray,List.map_cons,List.map_nil,hy,Instr.fill,Value.cells,List.size_toArray,i2,hc,hsz]
  simpa using hf
theorem Qg{w:World}{g:Nat}{cs:Array Value}:w.grownBy (w.setRow g cs) (some g):=⟨rfl,rfl,rfl,by rw[setRow_size];exact Nat.le_refl _,fun k _ hne=>Qe (fun e=>hne (by rw[e]))⟩
theorem Qf{w w1 w2:World}{r:Option Nat}(h1:w.grownBy w1 r)(h2:w1.grownBy w2 r):w.grownBy w2 r:=
 ⟨h2.os.trans h1.os,h2.tape.trans h1.tape,h2.output.trans h1.output,Nat.le_trans h1.size h2.size,fun k hk hne=>(h2.block k (Nat.lt_of_lt_of_le hk h1.size) hne).trans (h1.block k hk hne)⟩
theorem N1{w w1:World}{r:Option Nat}(h:∃y,w1=plus w y):w.grownBy w1 r:=by
 obtain⟨y,rfl⟩:=h;have hb:=A3 w y;exact⟨hb.os,hb.tape,hb.output,hb.size,fun k hk _=>hb.block k hk⟩
theorem af1(T:World)(ao:Option Addr)(n cap:Nat)(hs:List NH)(k:Nat)(x:NH)(w:World)(hT:∃y,w=plus T y)(hO:Own 56 33 fN T w ao n cap hs)(hk:k≤n)(hn:n≤1000):
  Calls Tryz.prog 118 #[.slice ao n cap,.int .i64 k,.agg (fN x).toArray] w fun e w'=>∃ao' n' cap',e=.returned (.slice ao' n' cap')∧(∃y,w'=plus T y)∧Own 56 33 fN T w' ao' n' cap' (zU hs k x)∧w.grownBy w' (Value.ownBlock (.slice ao n cap)):=by
 have hlen:=hO.1;obtain⟨cs,hcs⟩:∃cs,fN x=cs:=⟨_,rfl⟩;have hc:cs.length=33:=by rw[←hcs];rfl
 have ac:cs.toArray.size=33:=by simpa using hc
 have h1:∀v∈cs,v.oneCell'=true:=by rw[←hcs];exact aa4 x
 rw[hcs];obtain⟨b,hb⟩:∃b,w.heap.size=b:=⟨_,rfl⟩;have hTb:=qu hT;by_cases hkn:k=n
 ·subst hkn;go_enter Tryz.func118,Tryz.ntmps118;go_upto_region 1 with fail;refine qz (fun w'=>(∃y,w'=plus w y)∧w'.heap[b]?=some (.cells cs.toArray 56)) ⟨sk9,hb▸qc _ _⟩ ?_
  try simp only[hb]
  rintro w1 ⟨x1,k1⟩;have hO1:=hO.ex x1;go_wp2_with (first|(refine wpList_load_row rfl 56 _ rfl b rfl _ _ _ _ k1 Tryz.underlying56 rfl (by rw[ac];kernel_rfl) ?_)|(refine E0 rfl 28 56 _ rfl cs rfl Tryz.underlying28 (z:=.agg (fN nh0).toArray) (c:=33) (b:=224) kr0 hc dc0 dc0 ?_)|(at_builtin;refine qW (T:=T) (l:=hs) (l2:=[x]) rfl _ _ rfl a8g ag0 aa4 rfl (i9 hT (i9 x1 sk9)) (hO1.ex sk9) rfl (F7 (by rw[hcs];exact qc _ _)) om0 dc0 ?_;intro ao' cap' w3 o3 hx3 hgr));go_ret;refine⟨_,_,_,rfl,hx3,?_,Qf (N1 (i9 x1 sk9)) hgr⟩;rw[show zU hs k x=hs++[x]by unfold zU;rw[if_neg om0]];exact o3
 ·have dk:((k:Int)==(n:Int))=false:=by rw[beq_eq_false_iff_ne];omega
  have ik:(k:Int)<(n:Int):=om0;obtain⟨g,cur,rfl,hg,hbb,hsz⟩:=hO.blk om0;go_enter Tryz.func118,Tryz.ntmps118;go_upto_region 1 with fail;refine qz (fun w'=>(∃y,w'=plus w y)∧w'.heap[b]?=some (.cells cs.toArray 56)) ⟨sk9,hb▸qc _ _⟩ ?_
  try simp only[hb]
  rintro w1 ⟨x1,k1⟩;have hO1:=hO.ex x1;have hbb1:=i7 x1 hbb;have hset:=hO1.set_row hbb1 (show k<n by omega) ag0 x;rw[hcs]at hset;have hfit:=hset.2
  replace hset:=qw.mk hset
  go_wp2_with (first|(refine wpList_load_row rfl 56 _ rfl b rfl _ _ _ _ k1 Tryz.underlying56 rfl (by rw[ac];kernel_rfl) ?_)|(refine zu rfl 56 _ _ rfl g (k*33) cs (by simp[go_sem]) rfl _ cur hbb1 (by rw[hc];kernel_rfl) hfit h1 ?_));go_ret;refine⟨_,_,_,rfl,ql (i9 hT x1) om0,?_,Qf (N1 x1) Qg⟩;rw[show zU hs k x=hs.set k x by unfold zU;rw[if_pos om0]];exact hset.it.1
theorem a39(T:World)(ao:Option Addr)(n cap:Nat)(hs:List MH)(k:Nat)(x:MH)(w:World)(hT:∃y,w=plus T y)(hO:Own 61 3 fMh T w ao n cap hs)(hk:k≤n)(hn:n≤1000):
  Calls Tryz.prog 126 #[.slice ao n cap,.int .i64 k,.agg (fMh x).toArray] w fun e w'=>∃ao' n' cap',e=.returned (.slice ao' n' cap')∧(∃y,w'=plus T y)∧Own 61 3 fMh T w' ao' n' cap' (zU hs k x)∧w.grownBy w' (Value.ownBlock (.slice ao n cap)):=by
 have hlen:=hO.1;obtain⟨cs,hcs⟩:∃cs,fMh x=cs:=⟨_,rfl⟩;have hc:cs.length=3:=by rw[←hcs];rfl
 have ac:cs.toArray.size=3:=by simpa using hc
 have h1:∀v∈cs,v.oneCell'=true:=by rw[←hcs];exact a1G x
 rw[hcs];obtain⟨b,hb⟩:∃b,w.heap.size=b:=⟨_,rfl⟩;have hTb:=qu hT;by_cases hkn:k=n
 ·subst hkn;go_enter Tryz.func126,Tryz.ntmps126;go_upto_region 1 with fail;refine qz (fun w'=>(∃y,w'=plus w y)∧w'.heap[b]?=some (.cells cs.toArray 61)) ⟨sk9,hb▸qc _ _⟩ ?_
  try simp only[hb]
  rintro w1 ⟨x1,k1⟩;have hO1:=hO.ex x1;go_wp2_with (first|(refine wpList_load_row rfl 61 _ rfl b rfl _ _ _ _ k1 Tryz.underlying61 rfl (by rw[ac];kernel_rfl) ?_)|(refine E0 rfl 29 61 _ rfl cs rfl Tryz.underlying29 (z:=.agg (fMh mh0).toArray) (c:=3) (b:=72) kr0 hc dc0 dc0 ?_)|(at_builtin;refine qW (T:=T) (l:=hs) (l2:=[x]) rfl _ _ rfl a7Q Z1 a1G rfl (i9 hT (i9 x1 sk9)) (hO1.ex sk9) rfl (F7 (by rw[hcs];exact qc _ _)) om0 dc0 ?_;intro ao' cap' w3 o3 hx3 hgr));go_ret;refine⟨_,_,_,rfl,hx3,?_,Qf (N1 (i9 x1 sk9)) hgr⟩;rw[show zU hs k x=hs++[x]by unfold zU;rw[if_neg om0]];exact o3
 ·have dk:((k:Int)==(n:Int))=false:=by rw[beq_eq_false_iff_ne];omega
  have ik:(k:Int)<(n:Int):=om0;obtain⟨g,cur,rfl,hg,hbb,hsz⟩:=hO.blk om0;go_enter Tryz.func126,Tryz.ntmps126;go_upto_region 1 with fail;refine qz (fun w'=>(∃y,w'=plus w y)∧w'.heap[b]?=some (.cells cs.toArray 61)) ⟨sk9,hb▸qc _ _⟩ ?_
  try simp only[hb]
  rintro w1 ⟨x1,k1⟩;have hO1:=hO.ex x1;have hbb1:=i7 x1 hbb;have hset:=hO1.set_row hbb1 (show k<n by omega) Z1 x;rw[hcs]at hset;have hfit:=hset.2
  replace hset:=qw.mk hset
  go_wp2_with (first|(refine wpList_load_row rfl 61 _ rfl b rfl _ _ _ _ k1 Tryz.underlying61 rfl (by rw[ac];kernel_rfl) ?_)|(refine zu rfl 61 _ _ rfl g (k*3) cs (by simp[go_sem]) rfl _ cur hbb1 (by rw[hc];kernel_rfl) hfit h1 ?_));go_ret;refine⟨_,_,_,rfl,ql (i9 hT x1) om0,?_,Qf (N1 x1) Qg⟩;rw[show zU hs k x=hs.set k x by unfold zU;rw[if_pos om0]];exact hset.it.1
theorem a3E(T:World)(ao:Option Addr)(n cap:Nat)(hs:List TH)(k:Nat)(x:TH)(w:World)(hT:∃y,w=plus T y)(hO:Own 64 3 fTh T w ao n cap hs)(hk:k≤n)(hn:n≤1000):
  Calls Tryz.prog 127 #[.slice ao n cap,.int .i64 k,.agg (fTh x).toArray] w fun e w'=>∃ao' n' cap',e=.returned (.slice ao' n' cap')∧(∃y,w'=plus T y)∧Own 64 3 fTh T w' ao' n' cap' (zU hs k x)∧w.grownBy w' (Value.ownBlock (.slice ao n cap)):=by
 have hlen:=hO.1;obtain⟨cs,hcs⟩:∃cs,fTh x=cs:=⟨_,rfl⟩;have hc:cs.length=3:=by rw[←hcs];rfl
 have ac:cs.toArray.size=3:=by simpa using hc
 have h1:∀v∈cs,v.oneCell'=true:=by rw[←hcs];exact a2l x
 rw[hcs];obtain⟨b,hb⟩:∃b,w.heap.size=b:=⟨_,rfl⟩;have hTb:=qu hT;by_cases hkn:k=n
 ·subst hkn;go_enter Tryz.func127,Tryz.ntmps127;go_upto_region 1 with fail;refine qz (fun w'=>(∃y,w'=plus w y)∧w'.heap[b]?=some (.cells cs.toArray 64)) ⟨sk9,hb▸qc _ _⟩ ?_
  try simp only[hb]
  rintro w1 ⟨x1,k1⟩;have hO1:=hO.ex x1;go_wp2_with (first|(refine wpList_load_row rfl 64 _ rfl b rfl _ _ _ _ k1 Tryz.underlying64 rfl (by rw[ac];kernel_rfl) ?_)|(refine E0 rfl 30 64 _ rfl cs rfl Tryz.underlying30 (z:=.agg (fTh th0).toArray) (c:=3) (b:=40) kr0 hc dc0 dc0 ?_)|(at_builtin;refine qW (T:=T) (l:=hs) (l2:=[x]) rfl _ _ rfl a7Z Z2 a2l rfl (i9 hT (i9 x1 sk9)) (hO1.ex sk9) rfl (F7 (by rw[hcs];exact qc _ _)) om0 dc0 ?_;intro ao' cap' w3 o3 hx3 hgr));go_ret;refine⟨_,_,_,rfl,hx3,?_,Qf (N1 (i9 x1 sk9)) hgr⟩;rw[show zU hs k x=hs++[x]by unfold zU;rw[if_neg om0]];exact o3
 ·have dk:((k:Int)==(n:Int))=false:=by rw[beq_eq_false_iff_ne];omega
  have ik:(k:Int)<(n:Int):=om0;obtain⟨g,cur,rfl,hg,hbb,hsz⟩:=hO.blk om0;go_enter Tryz.func127,Tryz.ntmps127;go_upto_region 1 with fail;refine qz (fun w'=>(∃y,w'=plus w y)∧w'.heap[b]?=some (.cells cs.toArray 64)) ⟨sk9,hb▸qc _ _⟩ ?_
  try simp only[hb]
  rintro w1 ⟨x1,k1⟩;have hO1:=hO.ex x1;have hbb1:=i7 x1 hbb;have hset:=hO1.set_row hbb1 (show k<n by omega) Z2 x;rw[hcs]at hset;have hfit:=hset.2
  replace hset:=qw.mk hset
  go_wp2_with (first|(refine wpList_load_row rfl 64 _ rfl b rfl _ _ _ _ k1 Tryz.underlying64 rfl (by rw[ac];kernel_rfl) ?_)|(refine zu rfl 64 _ _ rfl g (k*3) cs (by simp[go_sem]) rfl _ cur hbb1 (by rw[hc];kernel_rfl) hfit h1 ?_));go_ret;refine⟨_,_,_,rfl,ql (i9 hT x1) om0,?_,Qf (N1 x1) Qg⟩;rw[show zU hs k x=hs.set k x by unfold zU;rw[if_pos om0]];exact hset.it.1
end
section
structure UwI (T w:World) (p:Nat) (h:SH) (x:SX) (s:Sc):Prop where
 ex:∃y,w=plus T y
 own:zi T w h x s
 bx:w.heap[p]?=some (.cells (qa h).toArray 95)
 hp:T.heap.size≤p
theorem UwI.on{T w w':World}{p:Nat}{h:SH}{x:SX}{s:Sc}(a:UwI T w p h x s)(hw:∃y,w'=plus w y):UwI T w' p h x s:=⟨i9 a.ex hw,a.own.ex hw,i7 hw a.bx,a.hp⟩
theorem UwI.took{T w:World}{p g:Nat}{h:SH}{x:SX}{s:Sc}{cur cs:Array Value}(a:UwI T w p h x s)(hb:w.heap[g]?=some (.cells cur 36))(hT:T.heap.size≤g):UwI T (w.setRow g cs) p h x s:=
 ⟨ql a.ex hT,a.own.row_other hb dc0,l9 a.bx (fun e=>by subst e;rw[a.bx]at hb;cases hb),a.hp⟩
def qt (e:EH) (n:Nd) (m:Ms) (t:Tp):Ed:=⟨e.kind,(e.h0,e.h1),(e.c0,e.c1),e.at',n,m,t⟩
def X8 (h:SH) (a b:Int):SH:=⟨h.ga,h.gn,h.gc,h.ka,h.kn,h.kc,h.na,h.nn,h.nc,h.ma,h.mn,h.mc,h.ta,h.tn,h.tc,a,b⟩
theorem zi.withRoot{T w:World}{h:SH}{x:SX}{s:Sc}(a:zi T w h x s)(r0 r1:Int):zi T w (X8 h r0 r1) x ⟨s.g,s.ns,s.ms,s.ts,(r0,r1)⟩:=
 ⟨a.g,a.nl,a.nlen,a.ns,a.ml,a.mlen,a.ms,a.tl,a.tlen,a.ts,rfl,a.pl⟩
theorem zv{P:Program}{fn:Func}{p q:Tmp}{ty:TypeId}(h:fn.results=#[.cell p ty,.tmp q])(tmps:Array Value)(w:World)(g:Nat)(t:TypeId)(cs:Array Value)(fr:Nat × Nat)(d:TypeDesc)(v:Value)
  (hp:tmps.getD p undef=.pointer (some ⟨g,0,none⟩)) (hq:tmps.getD q undef=v) (hg:w.heap[g]?=some (.cells cs t fr))
  (hu:P.underlying ty=some d) (hd:(match d with|.struct _|.array _ _=>true|_=>false)=true) (hi:(P.info? ty).map (·.size)=some cs.size):
  (results fn tmps).run P w=.ok (.tuple #[.agg cs,v]) w:=by
 have hp':tmps[p]?.getD undef=.pointer (some ⟨g,0,none⟩):=by simpa using hp
 have hq':tmps[q]?.getD undef=v:=by simpa using hq
 simp[results,h,hp',hq',asAddr,run_loadVar_row w g t ty cs fr d hg hu hd hi]
def ZY (T:World) (p:Nat) (s':Sc) (hs hg n er:Int) (e:Ending) (w':World):Prop:=
 e=.returned (.tuple #[.agg #[.int .i64 hs,.int .i64 hg,.int .i64 n],.int .i64 er])∧(∃y,w'=plus T y)∧(er=0→∃h' x',UwI T w' p h' x' s')
theorem Qi{T w:World}{p:Nat}{h:SH}{x:SX}{s:Sc}(I:UwI T w p h x s)(hok:S5 s.g.sl=true)(a0 a1:Int){v:Bool}(hv:qG s.g.sl a0 a1=v):
  Calls Tryz.prog 119 #[.pointer (some ⟨p,0,none⟩),.agg #[.int .i64 a0,.int .i64 a1]] w fun e w'=>e=.returned (.bool v)∧∃y,w'=plus w y:=by
 have hl:=I.own.g.sl;have hn:=hl.1;have ha:=QB hok;have hho:ZO s.g.sl a0 a1=v:=by rw[ZO,hok,hv];rfl
 replace hho:=qw.mk hho
 go_enter Tryz.func119,Tryz.ntmps119;go_upto_region 1 with fail;refine qz (fun w'=>(∃y,w'=plus w y)∧w'.heap[w.heap.size]?=some (.cells #[.int .i64 a0,.int .i64 a1] 32)) ⟨sk9,qc _ _⟩ ?_;rintro w1 ⟨x1,k1⟩;have k0:=i7 x1 I.bx;have c0:=k9 (i:=0) k0 rfl;have d0:w1.cell? ⟨w.heap.size,0,none⟩=some (.int .i64 a0):=i6 k1 rfl;have d1:w1.cell? ⟨w.heap.size,1,none⟩=some (.int .i64 a1):=i6 k1 rfl;have hl1:=hl.lay.ex x1;have l0:=zC c0;have l1:=zC d0;refine qg kr0 kr0 ?_
 (repeat(go_big_quiet_step ((go_at_call 79;exact C9 (A4 (hho.it▸R1 _ _ _ s.g.sl _ _ _ (hl1.ex sk9) om0))))))
 refine wpQuiet_nil ?_;rintro _ ⟨x2,rfl⟩;go_wp2;go_ret;exact⟨rfl,i9 x1 sk9⟩
theorem a0g{T w:World}{p:Nat}{h:SH}{x:SX}{s:Sc}(I:UwI T w p h x s)(hm:C2 s=true)(e:EH)(n:Nd)(m:Ms)(t:Tp)(hk:e.kind=8):
  Calls Tryz.prog 70 #[.pointer (some ⟨p,0,none⟩),vE e] w fun r w'=>ZY T p (K7 s (qt e n m t)) 0 0 0 (qF s (qt e n m t)) r w':=by
 obtain⟨hg,_,_,_,_⟩:=B6 hm;obtain⟨hok,_,_,_⟩:=zx hg;have hl:=I.own.g.sl;have hn:=hl.1;have ha:=QB hok;have he:qF s (qt e n m t)=if Q4 s (e.h0,e.h1)then 0 else 50:=by simp[qF,qt,hk]
 have hs:K7 s (qt e n m t)=⟨s.g,s.ns,s.ms,s.ts,(e.h0,e.h1)⟩:=by simp[K7,qt,hk]
 rw[he,hs];have i1:(fE e)[1]?=some (.int .i64 e.h0):=rfl;have i2:(fE e)[2]?=some (.int .i64 e.h1):=rfl;show Calls Tryz.prog 70 #[.pointer (some ⟨p,0,none⟩),.agg (fE e).toArray] w _;obtain⟨ce,hce⟩:∃c,fE e=c:=⟨_,rfl⟩;rw[hce]at i1 i2 ⊢;obtain⟨b,hb⟩:∃b,Q4 s (e.h0,e.h1)=b:=⟨_,rfl⟩;rw[hb];have hb2:(decide ((e.h0,e.h1)=((0,0):Int × Int))||qG s.g.sl e.h0 e.h1)=b:=hb
 replace hb2:=qw.mk hb2
 obtain⟨q,hq⟩:∃q,w.heap.size=q:=⟨_,rfl⟩;go_enter Tryz.func70,Tryz.ntmps70;go_upto_region 1 with fail;refine qz (fun w'=>(∃y,w'=plus w y)∧w'.heap[q]?=some (.cells ce.toArray 66)∧w'.heap[q+1]?=some (.cells #[.int .i64 0,.int .i64 0,.int .i64 0] 36)) ⟨sk9,hq▸qm (qc _ _),by rw[←hq,←j8 w];exact qc _ _⟩ ?_
 try simp only[hq]
 rintro w1 ⟨x1,k1,k2⟩;have k0:=i7 x1 I.bx;have c0:=k9 (i:=0) k0 rfl;have c1:=k9 (i:=1) k0 rfl;have c2:=k9 (i:=2) k0 rfl;have c3:=k9 (i:=3) k0 rfl;have c4:=k9 (i:=4) k0 rfl;have c5:=k9 (i:=5) k0 rfl;have c6:=k9 (i:=6) k0 rfl;have e1:=k9 k1 i1;have e2:=k9 k1 i2;have z5:=j9 (i:=5) k0;have z6:=j9 (i:=6) k0;have l0:=zC c0;have l1:=zC e1;have l2:=qi k2;have hl1:=hl.lay.ex x1;have hpq:p≠q+1:=by intro e0;rw[e0,k2]at k0;cases k0
 refine qg kr0 kr0 ?_
 (repeat(go_big_quiet_step ((go_at_call 31;exact C9 (J9 _ _ _ _ _ _ _ _ _ _ _ _ _ _ _ _ _ _ _ s.g.sl _ (hl1.ex sk9) om0 hok hb2.it)))))
 refine wpQuiet_nil ?_;rintro _ ⟨x2,rfl⟩;cases b
 ·go_upto_region 2 with fail;go_wp2_with (refine j6 rfl 36 (Operand.tmp 4) _ rfl (q+1) [.int .i64 0,.int .i64 0,.int .i64 0] rfl rfl _ _ (i7 sk9 k2) kr0 rfl (by intro v hv;simp at hv;subst hv;rfl) ?_);exact bodyPost_ret (zv Tryz.results70 _ _ (q+1) 36 #[.int .i64 0,.int .i64 0,.int .i64 0] _ _ (.int .i64 50) rfl rfl (p9 (i7 sk9 k2)) Tryz.underlying36 rfl kr0) rfl ⟨rfl,ql (i9 I.ex (i9 x1 sk9)) (by have:=qu I.ex;omega),fun e0=>by cases e0⟩
 ·go_upto_region 4 with fail;refine qz (fun w'=>UwI T w' p (X8 h e.h0 e.h1) x ⟨s.g,s.ns,s.ms,s.ts,(e.h0,e.h1)⟩∧w'.heap[q+1]?=some (.cells #[.int .i64 0,.int .i64 0,.int .i64 0] 36)) ⟨⟨zt (qb (qb (i9 I.ex x1) I.hp) I.hp),((((I.own.ex x1).set_other k0 dc0).set_other (y8 k0) dc0).withRoot e.h0 e.h1).ex ⟨x2,rfl⟩,i7 ⟨x2,rfl⟩ (by have:=y8 (i:=6) (u:=.int .i64 e.h1) (y8 (i:=5) (u:=.int .i64 e.h0) k0);exact this),I.hp⟩,i7 ⟨x2,rfl⟩ (qj (qj k2 hpq) hpq)⟩ ?_;clear c0 c1 c2 c3 c4 c5 c6 e1 e2 z5 z6 l0 l1 l2 k0 k1 k2;rintro w3 ⟨I3,k2⟩;have hTq:T.heap.size≤q+1:=by have:=qu I.ex;omega
  go_wp2_with (refine j6 rfl 36 (Operand.tmp 4) _ rfl (q+1) [.int .i64 0,.int .i64 0,.int .i64 0] rfl rfl _ _ k2 kr0 rfl (by intro v hv;simp at hv;subst hv;rfl) ?_);exact bodyPost_ret (zv Tryz.results70 _ _ (q+1) 36 #[.int .i64 0,.int .i64 0,.int .i64 0] _ _ (.int .i64 0) rfl rfl (p9 k2) Tryz.underlying36 rfl kr0) rfl ⟨rfl,ql I3.ex hTq,fun _=>⟨_,_,I3.took k2 hTq⟩⟩
end
section
def K2 (h:SH) (ga:Option Addr) (gn gc:Nat) (ka:Option Addr) (kn kc:Nat):SH:=⟨ga,gn,gc,ka,kn,kc,h.na,h.nn,h.nc,h.ma,h.mn,h.mc,h.ta,h.tn,h.tc,h.r0,h.r1⟩
theorem zi.withGraph{T w:World}{h:SH}{x:SX}{s:Sc}(a:zi T w h x s){ga ka:Option Addr}{gn gc kn kc:Nat}{hs:List RH}{g:Gr}(o:zS T w ga gn gc ka kn kc hs g):zi T w (K2 h ga gn gc ka kn kc) ⟨hs,x.nh,x.mh,x.ph,x.th⟩ ⟨g,s.ns,s.ms,s.ts,s.root⟩:=
 ⟨o,a.nl,a.nlen,a.ns,a.ml,a.mlen,a.ms,a.tl,a.tlen,a.ts,a.root,a.pl⟩
theorem zS.set_other10{T w:World}{gb i:Nat}{u:Value}{cur:Array Value}{ga ka:Option Addr}{gn gc kn kc:Nat}{hs:List RH}{g:Gr}(o:zS T w ga gn gc ka kn kc hs g)(hb:w.heap[gb]?=some (.cells cur 95)):zS T (w.setCell ⟨gb,i,none⟩ u) ga gn gc ka kn kc hs g:=o.set_other hb dc0 dc0 dc0
theorem af6{T w:World}{p:Nat}{h:SH}{x:SX}{s:Sc}(I:UwI T w p h x s)(ga ka:Option Addr)(gn gc kn kc:Nat)(hs:List RH)(g:Gr)(o:zS T w ga gn gc ka kn kc hs g)(er:Int):
  Calls Tryz.prog 121 #[.pointer (some ⟨p,0,none⟩),.agg #[.slice ga gn gc,.slice ka kn kc],.int .i64 er] w fun e w'=>e=.returned (.int .i64 er)∧w.grownBy w' (some p)∧(er=0→UwI T w' p (K2 h ga gn gc ka kn kc) ⟨hs,x.nh,x.mh,x.ph,x.th⟩ ⟨g,s.ns,s.ms,s.ts,s.root⟩)∧(er≠0→∃y,w'=plus w y):=by
 obtain⟨q,hq⟩:∃q,w.heap.size=q:=⟨_,rfl⟩;by_cases h0:er=0
 ·subst h0;go_enter Tryz.func121,Tryz.ntmps121;go_upto_region 1 with fail;refine qz (fun w'=>(∃y,w'=plus w y)∧w'.heap[q]?=some (.cells #[.slice ga gn gc,.slice ka kn kc] 27)) ⟨sk9,hq▸qc _ _⟩ ?_
  try simp only[hq]
  rintro w1 ⟨x1,k1⟩;have k0:=i7 x1 I.bx;have c0:=k9 (i:=0) k0 rfl;have c1:=k9 (i:=1) k0 rfl;have z0:=j9 (i:=0) k0;have z1:=j9 (i:=1) k0;have e0:w1.cell? ⟨q,0,none⟩=some (.slice ga gn gc):=i6 k1 rfl;have e1:w1.cell? ⟨q,1,none⟩=some (.slice ka kn kc):=i6 k1 rfl;have l0:=zC c0;have o1:=o.ex x1;have own:=(((I.own.ex x1).set_other (i:=0) (u:=.slice ga gn gc) k0 dc0).set_other (i:=1) (u:=.slice ka kn kc) (y8 k0) dc0).withGraph ((o1.set_other10 (i:=0) (u:=.slice ga gn gc) k0).set_other10 (i:=1) (u:=.slice ka kn kc) (y8 k0));have bx:=y8 (i:=1) (u:=.slice ka kn kc) (y8 (i:=0) (u:=.slice ga gn gc) k0);have hex:=qb (i:=1) (u:=.slice ka kn kc) (qb (i:=0) (u:=.slice ga gn gc) (i9 I.ex x1) I.hp) I.hp;have hgr:w.grownBy ((w1.setCell ⟨p,0,none⟩ (.slice ga gn gc)).setCell ⟨p,1,none⟩ (.slice ka kn kc)) (some p):=by
   have hb:=N1 (r:=some p) x1;refine⟨hb.os,hb.tape,hb.output,by rw[B9,B9];exact hb.size,fun k hk hne=>?_⟩;rw[qd (fun e=>hne (by rw[e])),qd (fun e=>hne (by rw[e]))];exact hb.block k hk hne
  replace own:=qw.mk own
  replace bx:=qw.mk bx
  replace hgr:=qw.mk hgr
  go_wp2_with fail;go_ret;exact⟨rfl,hgr.it,fun _=>⟨hex,own.it,bx.it,I.hp⟩,fun e=>absurd rfl e⟩
 ·have d0:(er==0)=false:=by rw[beq_eq_false_iff_ne];exact h0
  go_enter Tryz.func121,Tryz.ntmps121;go_wp2_with fail;go_ret;exact⟨rfl,N1 sk9,fun e=>absurd e h0,fun _=>sk9⟩
end
section
open Go.RowKit
structure N8 (d:Nat) (R:List Nat) (gb:Option Nat) (D:Nat→Bool) (w:World) (D':Nat→Bool) (w':World):Prop where
 t:ap4 d gb D w D' w'
 m:∀j,D j=true→D' j=true
 k:D' d=true→D d=true∨∀r,r∈R→D' r=true
section
variable {d:Nat} {R:List Nat} {gb:Option Nat} {D D':Nat→Bool} {w w':World}
theorem P3:∀D1 w1 D2 w2 D3 w3,N8 d R gb D1 w1 D2 w2→N8 d R gb D2 w2 D3 w3→N8 d R gb D1 w1 D3 w3:=by
 intro D1 w1 D2 w2 D3 w3 h1 h2;refine⟨S8 _ _ _ _ _ _ h1.t h2.t,fun j hj=>h2.m j (h1.m j hj),fun h=>?_⟩;rcases h2.k h with h|h
 ·rcases h1.k h with h|h
  ·exact .inl h
  ·exact .inr fun r hr=>h2.m r (h r hr)
 ·exact .inr h
theorem QP(w:World):N8 d R gb F8 w F8 {w with drawn:=w.drawn+1}:=⟨Y6 w,fun _ h=>h,fun h=>.inl h⟩
theorem qp{i:Nat}(hne:i≠d)(h:∃x,w'=plus w x):N8 d R gb D w (aq6 D i) w':=⟨t7 h,fun j hj=>G3 hj,fun h2=>.inl (by rwa[a78 hne]at h2)⟩
theorem aj9(hg:w.grownBy w' gb)(hD:D d=false)(hr:∀r,r∈R→D r=true):N8 d R gb D w (aq6 D d) w':=⟨ak7 hg hD,fun j hj=>G3 hj,fun _=>.inr fun r hm=>G3 (hr r hm)⟩
theorem Qp(h:N8 d R gb F8 w D w'){r:Nat}(hr:r∈R)(hD:D r=false):∃x,w'=plus w x:=by
 refine B7 h.t ?_;cases e:D d
 ·rfl
 ·rcases h.k e with h2|h2
  ·cases h2
  ·rw[h2 r hr]at hD;cases hD
theorem C7(h:N8 d R gb D w D' w')(hD:D d=true):∃x,w'=plus w x:=
 C3 ⟨h.t.grow.os,h.t.grow.tape,h.t.grow.output,h.t.grow.size,fun k hk=>h.t.same (by rw[hD,h.t.mono hD]) k hk⟩
end
end
section
def N0 (g:Gr) (h:Int × Int):Gr:=if zH g h h=0 then U3 g h else P4
def R9 (h:Int × Int) (ks:List (List (Int × Int))):Nat→List (List (Int × Int))
 |0=>ks
 |i+1=>(R9 h ks i).set i (v7 h (nth [] ks i))
theorem aa3(h:Int × Int)(ks:List (List (Int × Int))):∀i,(R9 h ks i).length=ks.length
 |0=>rfl
 |i+1=>by rw[R9,List.length_set];exact aa3 h ks i
theorem av7(h:Int × Int)(ks:List (List (Int × Int)))(j:Nat):∀i,i≤ks.length→nth [] (R9 h ks i) j=if j<i then v7 h (nth [] ks j)else nth [] ks j
 |0,_=>by rw[if_neg om0];rfl
 |i+1,hi=>by
  have ih:=av7 h ks j i om0;rw[R9,qR (by rw[aa3];omega),ih];by_cases e:j=i
  ·subst e;rw[if_pos rfl,if_pos om0]
  ·rw[if_neg e];by_cases hj:j<i
   ·rw[if_pos hj,if_pos om0]
   ·rw[if_neg hj,if_neg om0]
theorem a5E(h:Int × Int)(ks:List (List (Int × Int))):R9 h ks ks.length=ks.map (v7 h):=by
 refine aw7 (d:=[]) (by rw[aa3,List.length_map]) fun k hk=>?_
 rw[aa3]at hk;rw[av7 h ks k _ (Nat.le_refl _),if_pos hk];exact(ax1 (d:=([]:List (Int × Int))) (e:=[]) (f:=v7 h) rfl ks k).symm
theorem a6u{ao:Option Addr}{n cap n':Nat}{l r:List Sl}{s g er:Int}{w:World}(hr:H1 l s g=r)(he:D8 l s g=er)(hn':r.length=n')(hl:Lay fS w ao n l)(hn:n≤1000):
  Calls Tryz.prog 159 #[.agg #[.slice ao n cap],.agg #[.int .i64 s,.int .i64 g]] w fun e w'=>∃ao' cap',e=.returned (.tuple #[.agg #[.slice ao' n' cap'],.int .i64 er])∧(∃y,w'=plus w y)∧Own 86 2 fS w w' ao' n' cap' r:=by
 subst hr he hn';exact a20 ao n cap l s g w hl hn
structure KLI (w:World) (p:Nat) (xa:Option Addr) (n xc kb kn kc:Nat) (hs:List RH) (g:Gr) (hc:Array Value) (wr:World):Prop where
 ex:∃y,wr=plus w y
 own:zS w wr xa n xc (some ⟨kb,0,none⟩) kn kc hs g
 box:wr.heap[p]?=some (.cells #[.slice xa n xc,.slice (some ⟨kb,0,none⟩) kn kc] 27)
 bh:wr.heap[w.heap.size+1]?=some (.cells hc 32)
 br:wr.heap[w.heap.size+1+1]?=some (.cells #[.slice none 0 0,.slice none 0 0] 27)
section
variable {w wr wr':World} {p:Nat} {xa:Option Addr} {n xc kb kn kc:Nat} {hs:List RH} {g:Gr} {hc:Array Value}
theorem KLI.on(h:KLI w p xa n xc kb kn kc hs g hc wr)(hw:∃x,wr'=plus wr x):KLI w p xa n xc kb kn kc hs g hc wr':=⟨i9 h.ex hw,h.own.ex hw,i7 hw h.box,i7 hw h.bh,i7 hw h.br⟩
theorem KLI.kb_blk(h:KLI w p xa n xc kb kn kc hs g hc wr)(hk:0<kn):∃cur,wr.heap[kb]?=some (.cells cur 88)∧w.heap.size≤kb∧kb<wr.heap.size:=by
 obtain⟨_,cur,e0,h1,h2,_⟩:=h.own.kh.blk hk;cases e0;exact⟨cur,h2,h1,qi h2⟩
theorem KLI.head(h:KLI w p xa n xc kb kn kc hs g hc wr){k:Nat}(hk:k<kn):wr.cell? ⟨kb,k,none⟩=some (.slice (nth dRH hs k).ao (nth dRH hs k).n (nth dRH hs k).cap)∧wr.frozen? ⟨kb,k,none⟩=false:=by
 obtain⟨cur,hb,_,_⟩:=h.kb_blk om0;obtain⟨_,_,e0,_,hcell⟩:=h.own.kh.lay.some om0;cases e0;have c:=O9 h.own.kh.1 hcell hk;rw[Nat.zero_add]at c;exact⟨c,j9 hb⟩
theorem KLI.setRow{k:Nat}{r:RH}{l:List (Int × Int)}(h:KLI w p xa n xc kb kn kc hs g hc wr)(hk:k<kn)(o:Own 32 2 f2 w wr r.ao r.n r.cap l):KLI w p xa n xc kb kn kc (hs.set k r) ⟨g.sl,g.ks.set k l⟩ hc (wr.setCell ⟨kb,k,none⟩ (.slice r.ao r.n r.cap)):=by
 obtain⟨cur,hb,h1,_⟩:=h.kb_blk om0;have ne:∀{q:Nat} {c:Array Value} {e:TypeId},wr.heap[q]?=some (.cells c e)→e≠88→(wr.setCell ⟨kb,k,none⟩ (.slice r.ao r.n r.cap)).heap[q]?=some (.cells c e):=by
  intro q c e hq he;rw[qd ?_]
  ·exact hq
  ·intro e0;rw[e0,hq]at hb;cases hb;exact he rfl
 exact⟨qb h.ex h1,h.own.setRow hk o,ne h.box dc0,ne h.bh dc0,ne h.br dc0⟩
end
def k6S (i:Nat):List Nat:=match i with|0=>[37]|1=>[38]|2=>[39]|3=>[40]|4=>[41]|5=>[42]|6=>[43]|7=>[44]|8=>[45]|9=>[46]|10=>[47]|_=>[]
def k6Φ (W:World) (p kb kn kc i:Nat) (rv hv:Value) (R:List (Int × Int)) (j:Nat) (t:Nat→Value) (w':World):Prop:=match j with
 |0=>t 37=.pointer (some ⟨p,1,none⟩)
 |1=>t 38=.slice (some ⟨kb,0,none⟩) kn kc
 |2=>t 39=.int .i64 i
 |3=>t 40=.pointer (some ⟨p,1,none⟩)
 |4=>t 41=.slice (some ⟨kb,0,none⟩) kn kc
 |5=>t 42=.int .i64 i
 |6=>t 43=.pointer (some ⟨kb,i,none⟩)
 |7=>t 44=rv
 |8=>t 45=hv
 |9=>∃xa xc,t 46=.slice xa R.length xc∧Own 32 2 f2 W w' xa R.length xc R
 |10=>t 47=.pointer (some ⟨kb,i,none⟩)
 |_=>True
theorem a5J(W:World)(p kb kn kc i:Nat)(rv hv:Value)(R:List (Int × Int)):∀j t t' w' x,k6Φ W p kb kn kc i rv hv R j t w'→(∀s∈k6S j,t' s=t s)→k6Φ W p kb kn kc i rv hv R j t' (plus w' x):=by
 intro j t t' w' x h hs'
 match j with
 |0=>exact(hs' 37 dc0).trans h
 |1=>exact(hs' 38 dc0).trans h
 |2=>exact(hs' 39 dc0).trans h
 |3=>exact(hs' 40 dc0).trans h
 |4=>exact(hs' 41 dc0).trans h
 |5=>exact(hs' 42 dc0).trans h
 |6=>exact(hs' 43 dc0).trans h
 |7=>exact(hs' 44 dc0).trans h
 |8=>exact(hs' 45 dc0).trans h
 |9=>
  obtain⟨xa,xc,e,o⟩:=h;exact⟨xa,xc,(hs' 46 dc0).trans e,o.plus x⟩
 |10=>exact(hs' 47 dc0).trans h
 |j+11=>trivial
theorem a1T(ao:Option Addr)(n cap:Nat)(ko:Option Addr)(kn kcap:Nat)(hs:List RH)(gr:Gr)(s g:Int)(w:World)(hG:QL w ao n ko kn hs gr):
  Calls Tryz.prog 116 #[.agg #[.slice ao n cap,.slice ko kn kcap],.agg #[.int .i64 s,.int .i64 g]] w fun e w'=>at4 w (N0 gr (s,g)) (zH gr (s,g) (s,g)) e w':=by
 have hlen:=hG.kl;have hkh:=hG.kh.len;have hsl:=hG.sl.len;have m1:=hG.n1;have m2:=hG.n2;rcases ak3 gr (s,g) (s,g)with he|he|he;rotate_left
 ·rw[he,show N0 gr (s,g)=P4 by rw[N0,he];rfl];go_enter Tryz.func116,Tryz.ntmps116;go_wp2_with (go_at_call 157;refine pm0 (H0 he (hG.ex sk0)) fun nx=>?_);exact bodyPost_ret (v:=.tuple #[.agg #[.slice none 0 0,.slice none 0 0],.int .i64 8]) (by simp[results,Tryz.results116,go_sem,↓IntWalk.iteOmega]) rfl ⟨none,0,none,0,[],rfl,sk0,zK⟩
 ·rw[he,show N0 gr (s,g)=P4 by rw[N0,he];rfl];go_enter Tryz.func116,Tryz.ntmps116;go_wp2_with (go_at_call 157;refine pm0 (H0 he (hG.ex sk0)) fun nx=>?_);exact bodyPost_ret (v:=.tuple #[.agg #[.slice none 0 0,.slice none 0 0],.int .i64 50]) (by simp[results,Tryz.results116,go_sem,↓IntWalk.iteOmega]) rfl ⟨none,0,none,0,[],rfl,sk0,zK⟩
 obtain⟨hok,hh,_⟩:=a1d he;have hl:=A8 hh;simp only at hl hh;obtain⟨harOk,h2,h3,_⟩:=zx hok;obtain⟨k,rfl⟩:∃k:Nat,s=(k:Int):=⟨s.toNat,om0⟩;rw[Int.toNat_natCast]at hl;have hkl:k<kn:=om0;have ik:(k:Int)<(kn:Int):=om0;have hkE:D8 gr.sl k g=0:=by rw[D8,if_pos harOk,if_pos hh]
 have hkR:H1 gr.sl k g=qK gr.sl k:=by rw[H1,if_pos hkE]
 have hkL:(qK gr.sl k).length=n:=by rw[qK,List.length_set];exact hsl
 have hres:N0 gr ((k:Int),g)=⟨qK gr.sl k,(R9 ((k:Int),g) gr.ks kn).set k []⟩:=by
  rw[N0,he,if_pos rfl,←hlen,a5E];show Gr.mk (qK gr.sl (k:Int)) ((gr.ks.map _).set ((k:Int)).toNat [])=_;rw[Int.toNat_natCast]
 rw[he,hres];obtain⟨kg,kf,rfl,hkg,hkc⟩:=hG.kh.some om0;have hrow3:∀j,j<kn→(nth [] gr.ks j).length≤1000:=fun j hj=>by rw[hG.rl hj];exact hG.n3 j om0
 go_enter Tryz.func116,Tryz.ntmps116;go_upto_region 5 with(first|(go_at_call 157;refine pm0 (H0 he (hG.ex sk0)) fun nx=>?_)|(go_at_call 35;refine(QJ _ _ _ _ _ _ hs gr _ (hG.ex sk0)).mono ?_;rintro e w1 ⟨a1,c1,ka,kc,hs1,rfl,hw1,og⟩));have hzw:=qu hw1;have og2:=(og.ex (qE (o:=(.cells #[.slice a1 n c1,.slice ka kn kc] 27)) (j5 w1))).base (T':=w) (by simp[go_sem];omega);have hx2:∃y,w1.alloc (.cells #[.slice a1 n c1,.slice ka kn kc] 27)=plus w y:=sn0;have bv:(w1.alloc (.cells #[.slice a1 n c1,.slice ka kn kc] 27)).heap[w1.heap.size]?=some (.cells #[.slice a1 n c1,.slice ka kn kc] 27):=by rw[qe,if_pos rfl]
 have bh:(w1.alloc (.cells #[.slice a1 n c1,.slice ka kn kc] 27)).heap[w.heap.size+1]?=some (.cells #[.int .i64 k,.int .i64 g] 32):=i7 (w:=((w.alloc (.cells #[.slice ao n cap,.slice (some ⟨kg,kf,none⟩) kn kcap] 27)).alloc (.cells #[.int .i64 k,.int .i64 g] 32))) sn0 (by rw[qe,if_pos (by simp)]);have br:(w1.alloc (.cells #[.slice a1 n c1,.slice ka kn kc] 27)).heap[w.heap.size+1+1]?=some (.cells #[.slice none 0 0,.slice none 0 0] 27):=i7 (w:=(((w.alloc (.cells #[.slice ao n cap,.slice (some ⟨kg,kf,none⟩) kn kcap] 27)).alloc (.cells #[.int .i64 k,.int .i64 g] 32)).alloc (.cells #[.slice none 0 0,.slice none 0 0] 27))) sn0 (by rw[qe,if_pos (by simp)]);clear og;have lv:=qi bv;generalize w1.alloc (.cells #[.slice a1 n c1,.slice ka kn kc] 27)=w2 at*;obtain⟨kb,kcur,rfl,hkb,hkbb,_⟩:=og2.kh.blk om0;have v0:=i6 (i:=0) bv rfl;have v1:=i6 (i:=1) bv rfl;have h0:=i6 (i:=0) bh rfl;have lh:=qi bh;have lr:=qi br;have hzs:w.heap.size+1+1+1≤w1.heap.size:=by
  have:=qu hw1;simp[go_sem]at this;omega
 have h1:=i6 (i:=1) bh rfl;go_upto_region 7 with(go_at_call 159;refine(a6u hkR hkE hkL (og2.sl.lay.ex sk0) om0).mono ?_;rintro e wk ⟨xa,xc,rfl,hwk,okl⟩;have vk:=i6 (i:=0) (i7 hwk bv) rfl;have zk:=j9 (i:=0) (i7 hwk bv);have lk:=qi (i7 hwk bv));have bv3:=j7 (i:=0) (u:=.slice xa n xc) (i7 hwk bv);have og3:=(og2.ex hwk).set_other (i:=0) (u:=.slice xa n xc) (i7 hwk bv) dc0 dc0 dc0;have ok3:=(okl.base (T':=w) (qu hx2)).set_other (i:=0) (u:=.slice xa n xc) (i7 hwk bv) dc0;have bh3:=(qd (i:=0) (u:=.slice xa n xc) (show w1.heap.size≠w.heap.size+1 by omega)).trans (i7 hwk bh);have br3:=(qd (i:=0) (u:=.slice xa n xc) (show w1.heap.size≠w.heap.size+1+1 by omega)).trans (i7 hwk br);have hx3:=qb (i:=0) (u:=.slice xa n xc) (ZM hwk hx2) (show w.heap.size≤w1.heap.size by omega);refine zo (fun w'=>KLI w w1.heap.size xa n xc kb kn kc hs1 ⟨qK gr.sl k,gr.ks⟩ #[.int .i64 k,.int .i64 g] w') (KLI.on ⟨hx3,⟨ok3,og3.kh,og3.len,og3.row⟩,bv3,bh3,br3⟩ sk0) ?_;rintro w3 hI;clear og2 bv bh br v0 v1 h0 h1 lh lr lv hkbb okl og3 ok3 bv3 bh3 br3 hx3 vk zk lk hwk;have v1:=i6 (i:=1) hI.box rfl;go_wp2;go_loopw [10] (fun i_ wr=>∃(i:Nat) (hs':List RH),i≤kn∧i_=.int .i64 i∧KLI w w1.heap.size xa n xc kb kn kc hs' ⟨qK gr.sl k,R9 ((k:Int),g) gr.ks i⟩ #[.int .i64 k,.int .i64 g] wr) (fun i_ _=>kn - (intOf i_).toNat)
 case atStart=>exact⟨0,hs1,Nat.zero_le _,rfl,hI⟩
 case round=>
  clear hI v1;obtain⟨i,hs',hi,rfl,hI⟩:=hrel;have v0:=i6 (i:=0) hI.box rfl;have v1:=i6 (i:=1) hI.box rfl;have q0:=i6 (i:=0) hI.bh rfl;have q1:=i6 (i:=1) hI.bh rfl;have lb:=qi hI.box;have lh:=qi hI.bh;have lr:=qi hI.br;by_cases hil:i<kn;rotate_left
  ·have ii:¬(i:Int)<(kn:Int):=om0;obtain rfl:i=kn:=om0;obtain⟨c0,z0⟩:=hI.head hkl;have hI2:=hI.setRow (k:=k) (r:=dRH) (l:=[]) hkl zd;go_upto_region 12 with fail;refine zo (fun w'=>w'=wr.setCell ⟨kb,k,none⟩ (.slice none 0 0)) rfl ?_;rintro w7 e7;have hI7:KLI w w1.heap.size xa n xc kb i kc (hs'.set k dRH) ⟨qK gr.sl k,(R9 ((k:Int),g) gr.ks i).set k []⟩ #[.int .i64 k,.int .i64 g] w7:=by rw[e7];exact hI2
   clear e7 hI hI2 v0 v1 q0 q1 c0 z0;obtain⟨hx7,og7,bv7,_,br7⟩:=hI7;have v0:=i6 (i:=0) bv7 rfl;have v1:=i6 (i:=1) bv7 rfl;have r0:=i6 (i:=0) br7 rfl;have r1:=i6 (i:=1) br7 rfl;have y0:=j9 (i:=0) br7;have y1:=j9 (i:=1) br7;have og8:=(og7.set_other (i:=0) (u:=.slice xa n xc) br7 dc0 dc0 dc0).set_other (i:=1) (u:=.slice (some ⟨kb,0,none⟩) i kc) (j7 br7) dc0 dc0 dc0;have br8:=j7 (i:=1) (u:=.slice (some ⟨kb,0,none⟩) i kc) (j7 (i:=0) (u:=.slice xa n xc) br7);have hx8:=qb (i:=1) (u:=.slice (some ⟨kb,0,none⟩) i kc) (g:=w.heap.size+1+1) (qb (i:=0) (u:=.slice xa n xc) (g:=w.heap.size+1+1) hx7 om0) om0;go_wp2;generalize (w7.setCell ⟨w.heap.size+1+1,0,none⟩ (.slice xa n xc)).setCell ⟨w.heap.size+1+1,1,none⟩ (.slice (some ⟨kb,0,none⟩) i kc)=w9 at*;have f0:=i6 (i:=0) br8 rfl;have f1:=i6 (i:=1) br8 rfl;have hpost:at4 w ⟨qK gr.sl k,(R9 ((k:Int),g) gr.ks i).set k []⟩ 0 (.returned (.tuple #[.agg #[.slice xa n xc,.slice (some ⟨kb,0,none⟩) i kc],.int .i64 0])) w9:=by
    have e2:(Gr.mk (qK gr.sl k) ((R9 ((k:Int),g) gr.ks i).set k [])).ks.length=i:=by show((R9 ((k:Int),g) gr.ks i).set k []).length=i;rw[List.length_set,aa3];exact hlen
    have e1:(Gr.mk (qK gr.sl k) ((R9 ((k:Int),g) gr.ks i).set k [])).sl.length=n:=hkL;refine⟨xa,xc,some ⟨kb,0,none⟩,kc,hs'.set k dRH,?_,hx8,?_⟩
    ·rw[e1,e2]
    ·rw[e1,e2];exact og8
   exact bodyPost_ret (v:=.tuple #[.agg #[.slice xa n xc,.slice (some ⟨kb,0,none⟩) i kc],.int .i64 0]) (by simp[results,Tryz.results116,go_sem,f0,f1]) rfl hpost
  have ii:(i:Int)<(kn:Int):=om0;obtain⟨c0,z0⟩:=hI.head hil;obtain⟨_,_,hkbw,lkb⟩:=hI.kb_blk om0;have hri:nth [] (R9 ((k:Int),g) gr.ks i) i=nth [] gr.ks i:=by rw[av7 _ _ _ _ om0,if_neg om0]
  have orow:=hI.own.row i (by rw[hI.own.kh.1];exact hil);have horow:Own 32 2 f2 w wr (nth dRH hs' i).ao (nth dRH hs' i).n (nth dRH hs' i).cap (nth [] gr.ks i):=by rw[←hri];exact orow
  have hrn:(nth dRH hs' i).n≤1000:=by rw[←horow.1];exact hrow3 i hil
  have hlay:=horow.lay;go_upto_region 10 with fail;refine zJ 11 k6S (k6Φ wr w1.heap.size kb kn kc i (.slice (nth dRH hs' i).ao (nth dRH hs' i).n (nth dRH hs' i).cap) (.agg #[.int .i64 k,.int .i64 g]) (v7 ((k:Int),g) (nth [] gr.ks i))) kr0 kr0 dc0 (a5J _ _ _ _ _ _ _ _ _) ?steps ?fin
  case steps=>
   refine⟨?_,?_,?_,?_,?_,?_,?_,?_,?_,?_,?_,trivial⟩<;>intro a w' hg hfree hdeep<;>obtain⟨x,rfl⟩:=hg
   ·have f7:=hfree 7 kr0;simp only[k6Φ,got]at f7;simp[go_sem]at f7;unfold Oper.wp;simp[go_sem,execOp,Act.eval,↓IntWalk.iteOmega,f7];exact⟨_,rfl,j5 _,by simp[k6Φ,upd]⟩
   ·have d0:=hdeep 0 kr0;simp only[k6Φ,got]at d0;unfold Oper.wp;simp[go_sem,execOp,Act.eval,↓IntWalk.iteOmega,d0,v1];exact⟨_,rfl,j5 _,by simp[k6Φ,upd]⟩
   ·have f10:=hfree 10 kr0;simp only[k6Φ,got]at f10;simp[go_sem]at f10;unfold Oper.wp;simp[go_sem,execOp,Act.eval,↓IntWalk.iteOmega,f10];exact⟨_,rfl,j5 _,by simp[k6Φ,upd]⟩
   ·have f7:=hfree 7 kr0;simp only[k6Φ,got]at f7;simp[go_sem]at f7;unfold Oper.wp;simp[go_sem,execOp,Act.eval,↓IntWalk.iteOmega,f7];exact⟨_,rfl,j5 _,by simp[k6Φ,upd]⟩
   ·have d3:=hdeep 3 kr0;simp only[k6Φ,got]at d3;unfold Oper.wp;simp[go_sem,execOp,Act.eval,↓IntWalk.iteOmega,d3,v1];exact⟨_,rfl,j5 _,by simp[k6Φ,upd]⟩
   ·have f10:=hfree 10 kr0;simp only[k6Φ,got]at f10;simp[go_sem]at f10;unfold Oper.wp;simp[go_sem,execOp,Act.eval,↓IntWalk.iteOmega,f10];exact⟨_,rfl,j5 _,by simp[k6Φ,upd]⟩
   ·have d4:=hdeep 4 kr0;have d5:=hdeep 5 kr0;simp only[k6Φ,got]at d4 d5;unfold Oper.wp;simp[go_sem,execOp,Act.eval,↓IntWalk.iteOmega,d4,d5,ii];exact⟨_,rfl,j5 _,by simp[k6Φ,upd]⟩
   ·have d6:=hdeep 6 kr0;simp only[k6Φ,got]at d6;unfold Oper.wp;simp[go_sem,execOp,Act.eval,↓IntWalk.iteOmega,d6,c0];exact⟨_,rfl,j5 _,by simp[k6Φ,upd]⟩
   ·have f3:=hfree 3 kr0;simp only[k6Φ,got]at f3;simp[go_sem]at f3;unfold Oper.wp;simp[go_sem,execOp,Act.eval,↓IntWalk.iteOmega,f3,q0,q1];exact⟨_,rfl,j5 _,by simp[k6Φ,upd]⟩
   ·have d7:=hdeep 7 kr0;have d8:=hdeep 8 kr0;simp only[k6Φ,got]at d7 d8;unfold Oper.wp;simp[go_sem,execOp,Act.eval,↓IntWalk.iteOmega,d7,d8];refine(a0c _ _ _ (nth [] gr.ks i) _ _ _ (hlay.ex sk0) hrn).mono ?_;rintro e w1' ⟨xa',xn',xc',rfl,hw1',o1'⟩;obtain rfl:(v7 ((k:Int),g) (nth [] gr.ks i)).length=xn':=o1'.1;exact⟨_,rfl,hw1',xa',xc',by simp[upd],o1'.base (by rw[qn];omega)⟩
   ·have d1:=hdeep 1 kr0;have d2:=hdeep 2 kr0;simp only[k6Φ,got]at d1 d2;unfold Oper.wp;simp[go_sem,execOp,Act.eval,↓IntWalk.iteOmega,d1,d2,ii];exact⟨_,rfl,j5 _,by simp[k6Φ,upd]⟩
  case fin=>
   rintro t w4 hg hΦ;have h1:=hΦ 1 dc0;have h2':=hΦ 2 dc0;have h9:=hΦ 9 dc0;have h10:=hΦ 10 dc0;simp only[k6Φ]at h1 h2' h9 h10;obtain⟨xa',xc',e46,ow⟩:=h9;have hI4:=hI.on hg;obtain⟨c4,z4⟩:=hI4.head hil;have hI5:=hI4.setRow (k:=i) (r:=⟨xa',(v7 ((k:Int),g) (nth [] gr.ks i)).length,xc'⟩) hil (ow.base (qu hI.ex));simp only[zh,List.take_succ_cons,List.take_zero,List.take_nil,Act.put];simp only[List.setIfInBounds_toArray,List.set_cons_succ,List.set_cons_zero,e46,h10];simp only[List.drop_succ_cons,List.drop_zero,List.drop_nil];clear hΦ hg h1 h2' h10 ow hI v0 v1 q0 q1 c0 z0 orow horow hlay;go_wp2;go_roundw
   case rel=>exact⟨i+1,hs'.set i ⟨xa',(v7 ((k:Int),g) (nth [] gr.ks i)).length,xc'⟩,om0,by go_num,hI5⟩
   case measure=>simp[intOf];omega
end
end Go.Proofs.YtcekcihijdipoaaGreat
