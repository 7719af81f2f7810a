/- A pack of texts: TxLay, StMath, ArenaMath, Reach, NodesMath, Swap. -/
import Derived.Test.YtcekcihijdipoaaGreatPD1
namespace Go.Proofs.YtcekcihijdipoaaGreat
section
open Go.RowKit Go.ChangeShapes Go.WideShapes Go.ChangeAt Go.Deep
structure Cl where
 r:Int
 g:Int
 b:Int
 a:Int
def fCl (c:Cl):List Value:=[.int .u8 c.r,.int .u8 c.g,.int .u8 c.b,.int .u8 c.a]
def vCl (c:Cl):Value:=.agg #[.int .u8 c.r,.int .u8 c.g,.int .u8 c.b,.int .u8 c.a]
def cl0:Cl:=⟨0,0,0,0⟩
def ClB (c:Cl):Prop:=(0≤c.r∧c.r≤255)∧(0≤c.g∧c.g≤255)∧(0≤c.b∧c.b≤255)∧(0≤c.a∧c.a≤255)
theorem a1Q:∀x,(fCl x).length=4:=fun _=>rfl
theorem a88:∀x,∀u∈fCl x,u.oneCell'=true:=by intro x u hu;simp only[fCl,List.mem_cons,List.not_mem_nil,or_false]at hu;rcases hu with rfl|rfl|rfl|rfl<;>rfl
theorem a7t{w:World}{g off n k:Nat}{l:List Cl}(hl:l.length=n)(h:∀j u,(l.flatMap fCl)[j]?=some u→w.cell? ⟨g,off+j,none⟩=some u)(hk:k<n):
  w.cell? ⟨g,off+k*4,none⟩=some (.int .u8 (nth cl0 l k).r)∧w.cell? ⟨g,off+k*4+1,none⟩=some (.int .u8 (nth cl0 l k).g)∧w.cell? ⟨g,off+k*4+2,none⟩=some (.int .u8 (nth cl0 l k).b)∧w.cell? ⟨g,off+k*4+3,none⟩=some (.int .u8 (nth cl0 l k).a):=by
 have h0:=A6 (d:=cl0) hl a1Q h k 0 _ hk dc0 rfl;have h1:=A6 (d:=cl0) hl a1Q h k 1 _ hk dc0 rfl;have h2:=A6 (d:=cl0) hl a1Q h k 2 _ hk dc0 rfl;have h3:=A6 (d:=cl0) hl a1Q h k 3 _ hk dc0 rfl;rw[Nat.add_zero]at h0;rw[←Nat.add_assoc]at h1 h2 h3;exact⟨h0,h1,h2,h3⟩
def a36 (a0 a1 a2 a3 b0 b1 b2 b3:Int):Bool:=a0==b0&&(a1==b1&&(a2==b2&&(a3==b3)))
theorem ao7(a0 a1 a2 a3:Int):a36 a0 a1 a2 a3 a0 a1 a2 a3=true:=by simp[a36]
def a8U (c d:Cl):Bool:=a36 c.r c.g c.b c.a d.r d.g d.b d.a
theorem a5e(c:Cl):a8U c c=true:=ao7 _ _ _ _
def a34 (l l2:List Cl):Bool:=V4 a8U cl0 l l2
theorem a3m(l:List Cl):a34 l l=true:=G2 a5e l
structure TH where
 w:Int
 h:Int
 ao:Option Addr
 n:Nat
 cap:Nat
def fTh (t:TH):List Value:=[.int .i64 t.w,.int .i64 t.h,.slice t.ao t.n t.cap]
def vTh (t:TH):Value:=.agg #[.int .i64 t.w,.int .i64 t.h,.slice t.ao t.n t.cap]
def th0:TH:=⟨0,0,none,0,0⟩
theorem Z2:∀x,(fTh x).length=3:=fun _=>rfl
theorem a2l:∀x,∀u∈fTh x,u.oneCell'=true:=by intro x u hu;simp only[fTh,List.mem_cons,List.not_mem_nil,or_false]at hu;rcases hu with rfl|rfl|rfl<;>rfl
theorem a0T{w:World}{g off n k:Nat}{l:List TH}(hl:l.length=n)(h:∀j u,(l.flatMap fTh)[j]?=some u→w.cell? ⟨g,off+j,none⟩=some u)(hk:k<n):
  w.cell? ⟨g,off+k*3,none⟩=some (.int .i64 (nth th0 l k).w)∧w.cell? ⟨g,off+k*3+1,none⟩=some (.int .i64 (nth th0 l k).h)∧w.cell? ⟨g,off+k*3+2,none⟩=some (.slice (nth th0 l k).ao (nth th0 l k).n (nth th0 l k).cap):=by
 have h0:=A6 (d:=th0) hl Z2 h k 0 _ hk dc0 rfl;have h1:=A6 (d:=th0) hl Z2 h k 1 _ hk dc0 rfl;have h2:=A6 (d:=th0) hl Z2 h k 2 _ hk dc0 rfl;rw[Nat.add_zero]at h0;rw[←Nat.add_assoc]at h1 h2;exact⟨h0,h1,h2⟩
structure a7p (w:World) (h:TH) (l:List Cl):Prop where
 le:h.n≤9223372036854775807
 nil:h.ao=none→h.n=0∧h.cap=0
 lay:Lay fCl w h.ao h.n l
 ok:∀k,k<h.n→ClB (nth cl0 l k)
theorem a7p.ex{w w':World}{h:TH}{l:List Cl}(a:a7p w h l)(hw:∃x,w'=plus w x):a7p w' h l:=⟨a.le,a.nil,a.lay.ex hw,a.ok⟩
structure a6g (w:World) (hs:List TH) (ls:List (List Cl)):Prop where
 len:hs.length=ls.length
 one:∀k,k<hs.length→a7p w (nth th0 hs k) (nth [] ls k)
theorem a6g.ex{w w':World}{hs:List TH}{ls:List (List Cl)}(a:a6g w hs ls)(hw:∃x,w'=plus w x):a6g w' hs ls:=⟨a.len,fun k hk=>(a.one k hk).ex hw⟩
section
variable {H:Type} {enc:TypeId × Value→H} {P:Program} {W:World} {base:Nat} {spare:Nat→Bool} {held:Bool}
theorem a2x{t:TypeId}{fuel:Nat}{x:DataW H × List MemPlace}{cs:List Value}(hk:(List.range 4).map (T0 P 4 t)=[1,1,1,1])(hl:cs.length=4)
  (h:DataW.trod enc P W base spare held fuel t cs=some x):∃c:Cl,cs=fCl c∧ClB c:=by
 have hc:=ai3 4 t fuel cs x h;have hq:∀j,j<4→T0 P 4 t j=1:=by
  intro j hj;have h1:((List.range 4).map (T0 P 4 t))[j]?=some (T0 P 4 t j):=by simp[hj]
  rw[hk]at h1
  match j,hj with
  |0,_=>simpa using h1.symm
  |1,_=>simpa using h1.symm
  |2,_=>simpa using h1.symm
  |3,_=>simpa using h1.symm
 match cs,hl,hc with
 |[c0,c1,c2,c3],_,hc=>
  have q0:=hc 0 c0 rfl;have q1:=hc 1 c1 rfl;have q2:=hc 2 c2 rfl;have q3:=hc 3 c3 rfl;rw[hq 0 dc0]at q0;rw[hq 1 dc0]at q1;rw[hq 2 dc0]at q2;rw[hq 3 dc0]at q3;obtain⟨n0,rfl,b0⟩:=q0;obtain⟨n1,rfl,b1⟩:=q1;obtain⟨n2,rfl,b2⟩:=q2;obtain⟨n3,rfl,b3⟩:=q3;exact⟨⟨n0,n1,n2,n3⟩,rfl,b0,b1,b2,b3⟩
theorem a3H{t:TypeId}{ao:Option Addr}{n:Nat}(hk:(List.range 4).map (T0 P 4 t)=[1,1,1,1])
  (h:QZ W ao n 4 (fun cs=>∃m y,DataW.trod enc P W base spare held m t cs=some y)):∃l:List Cl,Lay fCl W ao n l∧∀k,k<n→ClB (nth cl0 l k):=
 Qm (f:=fCl) (R:=ClB) cl0 dc0 a1Q h (by
  rintro cs hl ⟨m,y,hy⟩;exact a2x hk hl hy)
variable {f0 f1 f2:Field} {t e:TypeId}
theorem a03{fuel:Nat}{x:DataW H × List MemPlace}{cs:List Value}(hs:P.underlying t=some (.struct #[f0,f1,f2]))(hone:oneCellFields P #[f0,f1,f2]=true)(h0:P.underlying f0.type=some (.int .i64))(h1:P.underlying f1.type=some (.int .i64))(h2:P.underlying f2.type=some (.slice e))
  (hc:P.cellsOf e=4) (hk:(List.range 4).map (T0 P 4 e)=[1,1,1,1]) (hl:cs.length=3) (h:DataW.trod enc P W base spare held fuel t cs=some x):∃hh l,cs=fTh hh∧a7p W hh l:=by
 obtain⟨y0,y1,y2,n,hx,_,t0,t1,t2⟩:=trod_struct3 hs h;obtain⟨o0,k0⟩:=hone_of hone 0 f0 rfl;obtain⟨o1,k1⟩:=hone_of hone 1 f1 rfl;obtain⟨o2,k2⟩:=hone_of hone 2 f2 rfl
 match cs,hl,t0,t1,t2 with
 |[c0,c1,c2],_,t0,t1,t2=>
  have t0':DataW.trod enc P W base spare held n f0.type [c0]=some y0:=by simpa [o0,k0]using t0
  have t1':DataW.trod enc P W base spare held n f1.type [c1]=some y1:=by simpa [o1,k1]using t1
  have t2':DataW.trod enc P W base spare held n f2.type [c2]=some y2:=by simpa [o2,k2]using t2
  obtain⟨a,ea,_,_⟩:=DataW.trod_int h0 t0';obtain rfl:c0=.int .i64 a:=by simpa using ea
  obtain⟨b,eb,_,_⟩:=DataW.trod_int h1 t1';obtain rfl:c1=.int .i64 b:=by simpa using eb
  obtain⟨ao,m,cap,rfl,hn,hz,ho⟩:=S4 h2 hc dc0 t2';obtain⟨l,hl,hb⟩:=a3H hk ho;exact⟨⟨a,b,ao,m,cap⟩,l,rfl,hn,hz,hl,hb⟩
theorem a6h{ao:Option Addr}{n:Nat}(hs:P.underlying t=some (.struct #[f0,f1,f2]))(hone:oneCellFields P #[f0,f1,f2]=true)(h0:P.underlying f0.type=some (.int .i64))(h1:P.underlying f1.type=some (.int .i64))(h2:P.underlying f2.type=some (.slice e))
  (hc:P.cellsOf e=4) (hk:(List.range 4).map (T0 P 4 e)=[1,1,1,1]) (h:QZ W ao n 3 (fun cs=>∃m y,DataW.trod enc P W base spare held m t cs=some y)):∃hs ls,Lay fTh W ao n hs∧a6g W hs ls:=by
 obtain⟨l,hl,hR⟩:=Qm (f:=fTh) (R:=fun hh=>∃p,a7p W hh p) th0 dc0 Z2 h (by
  rintro cs hl ⟨m,y,hy⟩;obtain⟨hh,l,e1,hp⟩:=a03 hs hone h0 h1 h2 hc hk hl hy;exact⟨hh,e1,l,hp⟩)
 have hR':∀k,∃p,k<n→a7p W (nth th0 l k) p:=by
  intro k;by_cases hk:k<n
  ·obtain⟨p,hp⟩:=hR k hk;exact⟨p,fun _=>hp⟩
  ·exact⟨[],fun h=>absurd h hk⟩
 refine⟨l,(List.range n).map fun k=>Classical.choose (hR' k),hl,⟨by simp[hl.len],fun k hk=>?_⟩⟩;rw[hl.len]at hk;rw[Q0 hk];exact Classical.choose_spec (hR' k) hk
end
def ap1 (n:Int):Bool:=decide (1≤n∧n≤16)
def plc (n:Int):Bool:=decide (0≤n∧n≤255)
def ad2 (w h:Int) (n:Nat):Bool:=ap1 w&&(ap1 h&&decide ((n:Int)=w*h))
def a6c (t:TH):Bool:=ad2 t.w t.h t.n
def a1r (w h:Int) (n:Nat):Int:=if ad2 w h n then 0 else 8
def S1 (hs:List TH):Int:=if 16<hs.length then 4 else if hs.all a6c then 0 else 8
def aA6 (w h u v:Int):Int:=v*h / 256*w+u*w / 256
def atT (w h:Int) (n:Nat) (l:List Cl) (u v:Int):Cl × Int:=
 if ad2 w h n then if plc u&&plc v then(nth cl0 l (aA6 w h u v).toNat,0)else(cl0,2)else(cl0,8)
def ac7 (w h:Int) (l:List Cl) (w2 h2:Int) (l2:List Cl):Bool:=decide (w=w2)&&(decide (h=h2)&&a34 l l2)
theorem a3L(w h:Int)(l:List Cl):ac7 w h l w h l=true:=by simp[ac7,a3m]
theorem a6o{w h:Int}{n:Nat}:ad2 w h n=true↔(1≤w∧w≤16)∧(1≤h∧h≤16)∧(n:Int)=w*h:=by
 simp[ad2,ap1,Bool.and_eq_true]
theorem a5k{w h:Int}{n:Nat}(hw:ap1 w=false):ad2 w h n=false:=by simp[ad2,hw]
theorem a30{w h:Int}{n:Nat}(hh:ap1 h=false):ad2 w h n=false:=by simp[ad2,hh]
theorem a2B{w h:Int}{n:Nat}(hn:¬(n:Int)=w*h):ad2 w h n=false:=by simp[ad2,hn]
theorem a6i{w h:Int}{n:Nat}(hw:ap1 w=true)(hh:ap1 h=true)(hn:(n:Int)=w*h):ad2 w h n=true:=by simp[ad2,hw,hh,hn]
theorem aw1{n:Int}:ap1 n=true↔1≤n∧n≤16:=by simp[ap1]
theorem a2I{w h:Int}(hw:1≤w∧w≤16)(hh:1≤h∧h≤16):1≤w*h∧w*h≤256:=by
 have h1:1*1≤w*h:=Int.mul_le_mul hw.1 hh.1 om0 om0;have h2:w*h≤16*16:=Int.mul_le_mul hw.2 hh.2 om0 om0;omega
end
section
structure Lk where
 r:Int
 g:Int
 b:Int
 a:Int
 tx:Int
 cu:Int
 bi:Int
 bl:Bool
 bn:Int
structure Sy where
 s0:Int
 s1:Int
 s2:Int
 s3:Int
 s4:Int
 l:Lk
structure Ih where
 l:Lk
 k0:Bool
 k1:Bool
 k2:Bool
 k3:Bool
 k4:Bool
def U8 (n:Int):Prop:=0≤n∧n≤255
structure LkB (l:Lk):Prop where
 r:U8 l.r
 g:U8 l.g
 b:U8 l.b
 a:U8 l.a
 cu:U8 l.cu
structure SyB (s:Sy):Prop where
 s0:U8 s.s0
 s1:U8 s.s1
 s2:U8 s.s2
 s3:U8 s.s3
 s4:U8 s.s4
 l:LkB s.l
def lk0:Lk:=⟨0,0,0,0,0,0,0,false,0⟩
def sy0:Sy:=⟨0,0,0,0,0,lk0⟩
def ih0:Ih:=⟨lk0,false,false,false,false,false⟩
def lkW:Lk:=⟨255,255,255,255, -1,0,0,false,0⟩
def ihW:Ih:=⟨lkW,false,false,false,false,false⟩
def QR (l:Lk):Bool:=decide (-1≤l.tx)&&(decide (l.tx<16)&&(decide (l.cu≤2)&&(decide (-1024≤l.bi)&&(decide (l.bi≤1024)&&(decide (0≤l.bn)&&decide (l.bn≤15))))))
def af3 (l:Lk):Int:=if QR l then 0 else 8
def N7 (n:Int):Bool:=decide (n=0)||(decide (n=1)||(decide (n=3)||(decide (n=5)||decide (n=7))))
def t0 (n:Int) (l o:Lk):Lk:=if n=0 then l else {l with r:=o.r,g:=o.g,b:=o.b,a:=o.a}
def t1 (n:Int) (l o:Lk):Lk:=if n=0 then l else {l with tx:=o.tx}
def t2 (n:Int) (l o:Lk):Lk:=if n=0 then l else {l with cu:=o.cu}
def t3 (n:Int) (l o:Lk):Lk:=if n=0 then l else {l with bi:=o.bi}
def t4 (n:Int) (l o:Lk):Lk:=if n=0 then l else {l with bl:=o.bl,bn:=o.bn}
def sd (s:Sy) (l:Lk):Nat→Lk
 |0=>t0 s.s0 l s.l
 |1=>t1 s.s1 l s.l
 |2=>t2 s.s2 l s.l
 |3=>t3 s.s3 l s.l
 |_=>t4 s.s4 l s.l
def B2 (s:Sy):Nat→Lk
 |0=>lk0
 |k+1=>sd s (B2 s k) k
def ah6 (s:Sy):Lk:=B2 s 5
def eqC (x y:Lk):Bool:=x.r==y.r&&(x.g==y.g&&(x.b==y.b&&x.a==y.a))
def eqL (x y:Lk):Bool:=eqC x y&&(x.tx==y.tx&&(x.cu==y.cu&&(x.bi==y.bi&&(x.bl==y.bl&&x.bn==y.bn))))
def eqK (x y:Ih):Bool:=x.k0==y.k0&&(x.k1==y.k1&&(x.k2==y.k2&&(x.k3==y.k3&&x.k4==y.k4)))
def aD5 (x y:Ih):Bool:=eqL x.l y.l&&eqK x y
theorem a6G(x:Lk):eqL x x=true:=by simp[eqL,eqC]
theorem a7C{x y:Lk}:eqL x y=true↔x=y:=by
 constructor
 ·intro h;obtain⟨r,g,b,a,t,c,i,l,n⟩:=x;obtain⟨r2,g2,b2,a2,t2,c2,i2,l2,n2⟩:=y;simp[eqL,eqC]at h;obtain⟨⟨h1,h2,h3,h4⟩,h5,h6,h7,h8,h9⟩:=h;subst h1 h2 h3 h4 h5 h6 h7 h8 h9;rfl
 ·rintro rfl;exact a6G x
def N4 (s:Sy):Bool:=N7 s.s0&&(N7 s.s1&&(N7 s.s2&&(N7 s.s3&&N7 s.s4)))
def E6 (s:Sy):Bool:=N4 s&&(QR s.l&&eqL (ah6 s) s.l)
def Q7 (s:Sy):Int:=if E6 s then 0 else 8
def a9Z (s:Sy):Bool:=s.s0==0&&(s.s1==0&&(s.s2==0&&(s.s3==0&&s.s4==0)))
def a4K (n:Int) (k:Bool):Bool:= !(n==0)&&(!k||decide (4≤n))
def a4k (n:Int):Bool:=n==3||n==7
def u0 (i:Ih) (s:Sy):Ih:=if a4K s.s0 i.k0 then {i with l:={i.l with r:=s.l.r,g:=s.l.g,b:=s.l.b,a:=s.l.a},k0:=a4k s.s0}else i
def u1 (i:Ih) (s:Sy):Ih:=if a4K s.s1 i.k1 then {i with l:={i.l with tx:=s.l.tx},k1:=a4k s.s1}else i
def u2 (i:Ih) (s:Sy):Ih:=if a4K s.s2 i.k2 then {i with l:={i.l with cu:=s.l.cu},k2:=a4k s.s2}else i
def u3 (i:Ih) (s:Sy):Ih:=if a4K s.s3 i.k3 then {i with l:={i.l with bi:=s.l.bi},k3:=a4k s.s3}else i
def u4 (i:Ih) (s:Sy):Ih:=if a4K s.s4 i.k4 then {i with l:={i.l with bl:=s.l.bl,bn:=s.l.bn},k4:=a4k s.s4}else i
def mk (i:Ih) (s:Sy):Nat→Ih
 |0=>u0 i s
 |1=>u1 i s
 |2=>u2 i s
 |3=>u3 i s
 |_=>u4 i s
def a7i (i:Ih) (s:Sy):Nat→Ih
 |0=>i
 |k+1=>mk (a7i i s k) s k
def a91 (i:Ih) (s:Sy):Ih:=a7i i s 5
def a4q (i:Ih) (s:Sy):Bool:=QR i.l&&E6 s
def a8S (i:Ih) (s:Sy):Int:=if a4q i s then 0 else 8
def aD2 (i:Ih) (s:Sy):Ih:=if a4q i s then a91 i s else ih0
theorem a4b{s:Sy}:N4 s=true↔N7 s.s0=true∧N7 s.s1=true∧N7 s.s2=true∧N7 s.s3=true∧N7 s.s4=true:=by simp[N4]
end
section
open Go.RowKit
structure Sl where
 gen:Int
 live:Bool
def dSl:Sl:=⟨0,false⟩
def a19 (s:Sl):Bool:=decide (1≤s.gen)&&decide (s.gen≤1073741824)
def S5 (l:List Sl):Bool:=l.all a19&&decide (l.length≤128)
def S7 (s:Sl):Bool:=!s.live&&decide (s.gen<1073741824)
def qG (l:List Sl) (s g:Int):Bool:=decide (0≤s∧s<l.length)&&((nth dSl l s.toNat).live&&decide ((nth dSl l s.toNat).gen=g))
def ZO (l:List Sl) (s g:Int):Bool:=S5 l&&qG l s g
def B3:List Sl→Nat
 |[]=>0
 |s::r=>if S7 s=true then 0 else B3 r+1
def H7 (l:List Sl):Int:=if S5 l=true then(if B3 l<l.length then 0 else if l.length=128 then 9 else 0)else 8
def qP (l:List Sl):List Sl:=if B3 l<l.length then l.set (B3 l) ⟨(nth dSl l (B3 l)).gen+1,true⟩else l++[⟨1,true⟩]
def zb (l:List Sl):Int:=B3 l
def zQ (l:List Sl):Int:=if B3 l<l.length then(nth dSl l (B3 l)).gen+1 else 1
def D8 (l:List Sl) (s g:Int):Int:=if S5 l=true then(if qG l s g=true then 0 else 50)else 8
def qK (l:List Sl) (s:Int):List Sl:=l.set s.toNat ⟨(nth dSl l s.toNat).gen,false⟩
theorem qR{α:Type}{d x:α}{l:List α}{k j:Nat}(hk:k<l.length):nth d (l.set k x) j=if j=k then x else nth d l j:=by
 unfold nth;by_cases e:j=k
 ·subst e;simp[hk]
 ·have e':¬k=j:=fun h=>e h.symm
  simp[e,e']
theorem QS:∀l:List Sl,B3 l≤l.length
 |[]=>Nat.le_refl _
 |s::r=>by
  have:=QS r;unfold B3;split
  ·exact Nat.zero_le _
  ·rw[List.length_cons];omega
theorem ab6:∀{l:List Sl} {k:Nat},k<B3 l→S7 (nth dSl l k)=false
 |[],k,hk=>by simp[B3]at hk
 |s::r,k,hk=>by
  unfold B3 at hk;split at hk
  ·omega
  ·rename_i h
   match k with
   |0=>simpa [nth]using h
   |k+1=>exact ab6 (l:=r) (k:=k) om0
theorem QO:∀{l:List Sl},B3 l<l.length→S7 (nth dSl l (B3 l))=true
 |[],h=>by simp at h
 |s::r,h=>by
  unfold B3 at*;split at h
  ·rename_i h1;rw[if_pos h1];exact h1
  ·rename_i h1;rw[if_neg h1];exact QO (l:=r) (by rw[List.length_cons]at h;omega)
theorem ad3{l:List Sl}{k:Nat}(hk:k≤l.length)(h1:∀j,j<k→S7 (nth dSl l j)=false)(h2:k<l.length→S7 (nth dSl l k)=true):B3 l=k:=by
 rcases Nat.lt_trichotomy (B3 l) k with h|h|h
 ·have:=h1 _ h;rw[QO om0]at this;cases this
 ·exact h
 ·have:=ab6 h;rw[h2 (Nat.lt_of_lt_of_le h (QS l))]at this;cases this
theorem ZA{l:List Sl}(h:S5 l=true){k:Nat}(hk:k<l.length):1≤(nth dSl l k).gen∧(nth dSl l k).gen≤1073741824:=by
 simp only[S5,Bool.and_eq_true,List.all_eq_true]at h;have:=h.1 _ (F3 (d:=dSl) hk)
 simpa [a19]using this
theorem QB{l:List Sl}(h:S5 l=true):l.length≤128:=by
 simp only[S5,Bool.and_eq_true,decide_eq_true_eq]at h;exact h.2
theorem a1K{l:List Sl}(hl:l.length≤128)(h:∀k,k<l.length→1≤(nth dSl l k).gen∧(nth dSl l k).gen≤1073741824):S5 l=true:=by
 simp only[S5,Bool.and_eq_true,List.all_eq_true,decide_eq_true_eq];refine⟨fun s hs=>?_,hl⟩;obtain⟨k,hk,rfl⟩:=List.getElem_of_mem hs;have:=h k hk;rw[Qv hk]at this
 simpa [a19]using this
theorem ay5{s:Sl}(h:S7 s=true):s.live=false∧s.gen<1073741824:=by
 simpa [S7]using h
theorem a9m{l:List Sl}(h:H7 l=0):S5 l=true∧(B3 l<l.length∨l.length<128):=by
 unfold H7 at h;split at h
 ·rename_i h1;refine⟨h1,?_⟩;split at h
  ·rename_i h2;exact .inl h2
  ·split at h
   ·cases h
   ·rename_i h3;have:=QB h1;exact .inr om0
 ·cases h
theorem a5w{l:List Sl}(h:H7 l=0):S5 (qP l)=true:=by
 obtain⟨h1,h2⟩:=a9m h;have hlen:=QB h1;unfold qP;split
 ·rename_i hf;have hg:=ay5 (QO hf);have ha:=ZA h1 hf;refine a1K (by rw[List.length_set];exact hlen) fun k hk=>?_
  rw[List.length_set]at hk;rw[qR hf];split
  ·simp only;omega
  ·exact ZA h1 hk
 ·rename_i hf;refine a1K (by rw[List.length_append];simp;omega) fun k hk=>?_
  rw[List.length_append]at hk;simp only[List.length_cons,List.length_nil]at hk;by_cases hkl:k<l.length
  ·rw[zB hkl];exact ZA h1 hkl
  ·rw[zG om0,show k - l.length=0 by omega];exact⟨dc0,dc0⟩
theorem a1R{l:List Sl}{s:Int}(h:S5 l=true)(hs:s.toNat<l.length):S5 (qK l s)=true:=by
 refine a1K (by unfold qK;rw[List.length_set];exact QB h) fun k hk=>?_
 unfold qK at*;rw[List.length_set]at hk;rw[qR hs];split
 ·exact ZA h hs
 ·exact ZA h hk
theorem C6{l:List Sl}{s g:Int}:qG l s g=true↔(0≤s∧s<l.length)∧(nth dSl l s.toNat).live=true∧(nth dSl l s.toNat).gen=g:=by
 simp[qG,Bool.and_eq_true]
structure aB5 (l:List Sl) (gv:List (Int × Int)) (lv:List Bool):Prop where
 len:gv.length=lv.length
 rng:∀k,k<gv.length→0≤(nth (0,0) gv k).1∧(nth (0,0) gv k).1<l.length∧(nth (0,0) gv k).2≤(nth dSl l (nth (0,0) gv k).1.toNat).gen
 is:∀k,k<gv.length→qG l (nth (0,0) gv k).1 (nth (0,0) gv k).2=nth false lv k
 two:∀j k,j<gv.length→k<gv.length→nth (0,0) gv j=nth (0,0) gv k→j=k
theorem ay4(l:List Sl):l.length≤(qP l).length:=by
 unfold qP;split
 ·rw[List.length_set];exact Nat.le_refl _
 ·rw[List.length_append];omega
theorem a6k{l:List Sl}{s g:Int}(h0:0≤s)(h1:s<l.length)(hg:g≤(nth dSl l s.toNat).gen):qG (qP l) s g=qG l s g∧g≤(nth dSl (qP l) s.toNat).gen:=by
 have hs:s.toNat<l.length:=om0;unfold qP;split
 ·rename_i hf;rw[qR hf];by_cases e:s.toNat=B3 l
  ·rw[if_pos e];have hfr:=ay5 (QO hf);refine⟨?_,by rw[e]at hg;simp only;omega⟩;have a1:qG l s g=false:=by
    cases h:qG l s g with
    |false=>rfl
    |true=>rw[C6,e,hfr.1]at h;cases h.2.1
   rw[a1];cases h:qG (l.set (B3 l) ⟨(nth dSl l (B3 l)).gen+1,true⟩) s g with
   |false=>rfl
   |true=>
    rw[C6,qR hf,if_pos e]at h;have:=h.2.2;rw[e]at hg;simp only at this;omega
  ·rw[if_neg e];exact⟨by unfold qG;rw[List.length_set,qR hf,if_neg e],hg⟩
 ·rw[zB hs];refine⟨?_,hg⟩;unfold qG;rw[zB hs,List.length_append];have:(0≤s∧s<((l.length+[(⟨1,true⟩:Sl)].length:Nat):Int))↔(0≤s∧s<(l.length:Int)):=by
   constructor
   ·intro _;exact⟨h0,h1⟩
   ·intro _;simp only[List.length_cons,List.length_nil];omega
  simp only[this]
end
section
open Go.RowKit
section
variable {K K':Nat→List Nat} {n:Nat}
def a44 (K:Nat→List Nat):Nat→Nat→Nat→Prop
 |0,i,j=>i=j
 |m+1,i,j=>i=j∨∃c,c∈K i∧a44 K m c j
def Reach (K:Nat→List Nat) (i j:Nat):Prop:=∃m,a44 K m i j
theorem K9(i:Nat):Reach K i i:=⟨0,rfl⟩
theorem Zt{i c j:Nat}(hc:c∈K i)(h:Reach K c j):Reach K i j:=by
 obtain⟨m,hm⟩:=h;exact⟨m+1,.inr ⟨c,hc,hm⟩⟩
theorem ab9{P:Nat→Prop}(hcl:∀x c,P x→c∈K x→P c):∀m i j,P i→a44 K m i j→P j
 |0,i,j,hi,h=>by
  have e:i=j:=h;exact e▸hi
 |m+1,i,j,hi,h=>by
  rcases h with e|⟨c,hc,h⟩
  ·exact e▸hi
  ·exact ab9 hcl m c j (hcl i c hi hc) h
theorem Qw{P:Nat→Prop}(hcl:∀x c,P x→c∈K x→P c){i j:Nat}(hi:P i)(h:Reach K i j):P j:=by
 obtain⟨m,hm⟩:=h;exact ab9 hcl m i j hi hm
theorem al4{i j k:Nat}(h1:Reach K i j)(h2:Reach K j k):Reach K i k:=by
 obtain⟨m,hm⟩:=h1
 induction m generalizing i with
 |zero=>
  have e:i=j:=hm;exact e▸h2
 |succ m ih=>
  rcases hm with e|⟨c,hc,h⟩
  ·exact e▸h2
  ·exact Zt hc (ih h)
theorem a5c{i c:Nat}(h:c∈K i):Reach K i c:=Zt h (K9 c)
theorem T5{i j c:Nat}(h:Reach K i j)(hc:c∈K j):Reach K i c:=al4 h (a5c hc)
theorem a0O(hs:∀i c,c∈K' i→c∈K i){i j:Nat}(h:Reach K' i j):Reach K i j:=
 Qw (P:=fun x=>Reach K i x) (fun x c hx hc=>T5 hx (hs x c hc)) (K9 i) h
def a4X (K:Nat→List Nat) (n:Nat):Prop:=∀i,i<n→∀c,c∈K i→¬Reach K c i
theorem a2S(hs:∀i c,c∈K' i→c∈K i)(h:a4X K n):a4X K' n:=fun i hi c hc hr=>h i hi c (hs i c hc) (a0O hs hr)
theorem ar6{p x:Nat}(hl:∀i c,c∈K' i→c∈K i∨(i=p∧c=x)){i j:Nat}(h:Reach K' i j):Reach K i j∨(Reach K i p∧Reach K x j):=by
 refine Qw (K:=K') (P:=fun y=>Reach K i y∨(Reach K i p∧Reach K x y)) (fun y c hy hc=>?_) (.inl (K9 i)) h;rcases hl y c hc with h1|⟨rfl,rfl⟩
 ·rcases hy with h2|⟨h2,h3⟩
  ·exact .inl (T5 h2 h1)
  ·exact .inr ⟨h2,T5 h3 h1⟩
 ·rcases hy with h2|⟨h2,h3⟩
  ·exact .inr ⟨h2,K9 c⟩
  ·exact .inr ⟨h2,K9 c⟩
theorem a4L{p x:Nat}(hl:∀i c,c∈K' i→c∈K i∨(i=p∧c=x))(h:a4X K n)(hno:¬Reach K x p):a4X K' n:=by
 intro i hi c hc hr;rcases hl i c hc with h1|⟨rfl,rfl⟩
 ·rcases ar6 hl hr with h2|⟨h2,h3⟩
  ·exact h i hi c h1 h2
  ·exact hno (al4 (T5 h3 h1) h2)
 ·rcases ar6 hl hr with h2|⟨h2,_⟩
  ·exact hno h2
  ·exact hno h2
def cnt (o:List Bool):Nat:=o.countP id
def Le (a b:List Bool):Prop:=a.length=b.length∧∀j,nth false a j=true→nth false b j=true
theorem Qo(a:List Bool):Le a a:=⟨rfl,fun _ h=>h⟩
theorem O6{a b c:List Bool}(h1:Le a b)(h2:Le b c):Le a c:=⟨h1.1.trans h2.1,fun j h=>h2.2 j (h1.2 j h)⟩
theorem ak4(a:List Bool)(k:Nat):Le a (a.set k true):=by
 refine⟨by rw[List.length_set],fun j h=>?_⟩;by_cases hk:k<a.length
 ·rw[qR hk];split
  ·rfl
  ·exact h
 ·rw[List.set_eq_of_length_le om0];exact h
theorem G9{α:Type}(d x:α)(l:List α)(k:Nat):nth d (x::l) (k+1)=nth d l k:=by simp[nth]
theorem K8{α:Type}(d x:α)(l:List α):nth d (x::l) 0=x:=by simp[nth]
theorem Q5{α:Type}{d:α}{l:List α}{k:Nat}(h:l.length≤k):nth d l k=d:=by simp[nth,List.getElem?_eq_none h]
theorem a4D:∀{a b:List Bool},Le a b→cnt a≤cnt b
 |[],[],_=>Nat.le_refl _
 |[],b::y,h=>by simp[Le]at h
 |a::x,[],h=>by simp[Le]at h
 |a::x,b::y,h=>by
  have h1:Le x y:=⟨by simpa using h.1,fun j hj=>by have:=h.2 (j+1);rw[G9,G9]at this;exact this hj⟩;have h0:=h.2 0;rw[K8,K8]at h0;have:=a4D h1;unfold cnt at*;cases a with
  |false=>rw[List.countP_cons,List.countP_cons];simp;omega
  |true=>rw[h0 rfl,List.countP_cons,List.countP_cons];omega
theorem au8:∀{a b:List Bool} (k:Nat),Le a b→nth false a k=false→nth false b k=true→cnt a<cnt b
 |[],[],k,_,_,h=>by simp[nth]at h
 |[],b::y,k,h,_,_=>by simp[Le]at h
 |a::x,[],k,h,_,_=>by simp[Le]at h
 |a::x,b::y,k,h,ha,hb=>by
  have h1:Le x y:=⟨by simpa using h.1,fun j hj=>by have:=h.2 (j+1);rw[G9,G9]at this;exact this hj⟩;have h0:=h.2 0;rw[K8,K8]at h0;cases k with
  |zero=>
   rw[K8]at ha hb;have:=a4D h1;subst ha hb;unfold cnt at*;rw[List.countP_cons,List.countP_cons];simp;omega
  |succ k=>
   rw[G9]at ha hb;have:=au8 k h1 ha hb;unfold cnt at*;cases a with
   |false=>rw[List.countP_cons,List.countP_cons];simp;omega
   |true=>rw[h0 rfl,List.countP_cons,List.countP_cons];omega
theorem ax2(a:List Bool):cnt a≤a.length:=List.countP_le_length
theorem a9j{a b:List Bool}(h:Le a b)(hc:cnt b≤cnt a):a=b:=by
 refine aw7 (d:=false) h.1 fun k _=>?_
 cases ha:nth false a k with
 |true=>rw[h.2 k ha]
 |false=>
  cases hb:nth false b k with
  |false=>rfl
  |true=>
   have:=au8 k h ha hb;omega
theorem a7F{a:List Bool}(h:cnt a=a.length){k:Nat}(hk:k<a.length):nth false a k=true:=by
 have h2:∀x∈a,id x=true:=List.countP_eq_length.1 h;exact h2 _ (F3 hk)
theorem a8n{a:List Bool}(h:∀k,k<a.length→nth false a k=true):cnt a=a.length:=by
 refine List.countP_eq_length.2 fun x hx=>?_
 obtain⟨k,hk,rfl⟩:=List.getElem_of_mem hx;have:=h k hk;rwa[Qv hk]at this
def stp (i:Nat) (o:List Bool) (c:Nat):List Bool:=if nth false o i=true then o.set c true else o
def inn (K:Nat→List Nat) (o:List Bool) (i k:Nat):List Bool:=((K i).take k).foldl (stp i) o
def mid (K:Nat→List Nat) (o:List Bool):Nat→List Bool
 |0=>o
 |i+1=>inn K (mid K o i) i (K i).length
def rnd (K:Nat→List Nat) (n:Nat) (o:List Bool):Nat→List Bool
 |0=>o
 |r+1=>mid K (rnd K n o r) n
theorem a6Z(o:List Bool)(i k:Nat)(hk:k<(K i).length):inn K o i (k+1)=stp i (inn K o i k) (nth 0 (K i) k):=by
 unfold inn;rw[P1 (d:=0) hk,List.foldl_append];rfl
theorem a4m(i:Nat)(o:List Bool)(c:Nat):Le o (stp i o c):=by
 unfold stp;split
 ·exact ak4 o c
 ·exact Qo o
theorem a1H(i:Nat):∀(cs:List Nat) (o:List Bool),Le o (cs.foldl (stp i) o)
 |[],o=>Qo o
 |c::cs,o=>O6 (a4m i o c) (a1H i cs _)
theorem a7j(o:List Bool)(i k:Nat):Le o (inn K o i k):=a1H i _ o
theorem a0U(o:List Bool):∀i,Le o (mid K o i)
 |0=>Qo o
 |i+1=>O6 (a0U o i) (a7j _ i _)
theorem a1l(o:List Bool)(i:Nat):∀j,Le (mid K o i) (mid K o (i+j))
 |0=>Qo _
 |j+1=>O6 (a1l o i j) (a7j _ (i+j) _)
theorem a0K{i:Nat}:∀(cs:List Nat) (o:List Bool),nth false o i=true→(∀c,c∈cs→c<o.length)→∀c,c∈cs→nth false (cs.foldl (stp i) o) c=true
 |[],o,_,_,c,hc=>by simp at hc
 |a::cs,o,hi,hl,c,hc=>by
  have hs:nth false (stp i o a) i=true:=(a4m i o a).2 i hi;rcases List.mem_cons.1 hc with rfl|hc'
  ·refine(a1H i cs _).2 c ?_;unfold stp;rw[if_pos hi,qR (hl c (by simp)),if_pos rfl]
  ·exact a0K cs _ hs (fun x hx=>by rw[←(a4m i o a).1];exact hl x (by simp[hx])) c hc'
theorem a5Y{o:List Bool}(hK:∀i,i<n→∀c,c∈K i→c<n)(hl:o.length=n){i c:Nat}(hi:i<n)(hm:nth false o i=true)(hc:c∈K i):nth false (mid K o n) c=true:=by
 have h1:=(a0U (K:=K) o i).2 i hm;have h2:nth false (mid K o (i+1)) c=true:=by
  show nth false (inn K (mid K o i) i (K i).length) c=true;unfold inn;rw[List.take_length];exact a0K (K i) _ h1 (fun x hx=>by rw[←(a0U (K:=K) o i).1,hl];exact hK i hi x hx) c hc
 have h3:=(a1l (K:=K) o (i+1) (n - (i+1))).2 c h2;rwa[show i+1+(n - (i+1))=n by omega]at h3
theorem au0{P:Nat→Prop}{i:Nat}:∀(cs:List Nat) (o:List Bool),(∀j,nth false o j=true→P j)→(P i→∀c,c∈cs→P c)→∀j,nth false (cs.foldl (stp i) o) j=true→P j
 |[],o,h,_,j,hj=>h j hj
 |a::cs,o,h,hc,j,hj=>by
  refine au0 cs (stp i o a) (fun x hx=>?_) (fun hi c hcc=>hc hi c (by simp[hcc])) j hj;unfold stp at hx;split at hx
  ·rename_i hi;by_cases ha:a<o.length
   ·rw[qR ha]at hx;split at hx
    ·rename_i e;rw[e];exact hc (h i hi) a (by simp)
    ·exact h x hx
   ·rw[List.set_eq_of_length_le om0]at hx;exact h x hx
  ·exact h x hx
theorem a5h{P:Nat→Prop}{o:List Bool}{i k:Nat}(hcl:∀x c,P x→c∈K x→P c)(h:∀j,nth false o j=true→P j):∀j,nth false (inn K o i k) j=true→P j:=
 au0 _ o h (fun hi c hc=>hcl i c hi (List.mem_of_mem_take hc))
theorem a0z{P:Nat→Prop}{o:List Bool}(hcl:∀x c,P x→c∈K x→P c)(h:∀j,nth false o j=true→P j):∀i j,nth false (mid K o i) j=true→P j
 |0=>h
 |i+1=>a5h hcl (a0z hcl h i)
theorem a0y{P:Nat→Prop}{o:List Bool}(hcl:∀x c,P x→c∈K x→P c)(h:∀j,nth false o j=true→P j):∀r j,nth false (rnd K n o r) j=true→P j
 |0=>h
 |r+1=>a0z hcl (a0y hcl h r) n
theorem a1k(o:List Bool):∀r,Le o (rnd K n o r)
 |0=>Qo o
 |r+1=>O6 (a1k o r) (a0U _ n)
theorem a5v{o:List Bool}(hl:o.length=n)(h1:1≤cnt o):mid K (rnd K n o n) n=rnd K n o n:=by
 have key:∀r,mid K (rnd K n o r) n=rnd K n o r∨r+1≤cnt (rnd K n o r):=by
  intro r
  induction r with
  |zero=>exact .inr h1
  |succ r ih=>
   rcases ih with e|h
   ·left;show mid K (mid K (rnd K n o r) n) n=mid K (rnd K n o r) n;rw[e,e]
   ·by_cases hc:cnt (mid K (rnd K n o r) n)≤cnt (rnd K n o r)
    ·left;have e:=a9j (a0U (K:=K) (rnd K n o r) n) hc;show mid K (mid K (rnd K n o r) n) n=mid K (rnd K n o r) n;rw[←e,←e]
    ·right;show r+1+1≤cnt (mid K (rnd K n o r) n);omega
 rcases key n with e|h
 ·exact e
 ·have:=ax2 (rnd K n o n);rw[←(a1k o n).1,hl]at this;omega
def Z3 (K:Nat→List Nat) (n i:Nat):List Bool:=rnd K n ((List.replicate n false).set i true) n
theorem ZX(i:Nat):(Z3 K n i).length=n:=by
 have:=(a1k (K:=K) (n:=n) ((List.replicate n false).set i true) n).1;rw[List.length_set,List.length_replicate]at this;exact this.symm
theorem E9(n j:Nat):nth false (List.replicate n false) j=false:=by
 by_cases h:j<n
 ·rw[Qv (by simpa using h)];simp
 ·rw[Q5 (by simpa using h)]
theorem Ql(hK:∀i,i<n→∀c,c∈K i→c<n){i:Nat}(hi:i<n)(j:Nat):nth false (Z3 K n i) j=true↔Reach K i j:=by
 have hl:((List.replicate n false).set i true).length=n:=by rw[List.length_set,List.length_replicate]
 have h0:nth false ((List.replicate n false).set i true) i=true:=by rw[qR (by simpa using hi),if_pos rfl]
 have hc:1≤cnt ((List.replicate n false).set i true):=by
  have:=au8 i (ak4 (List.replicate n false) i) (E9 n i) h0;omega
 constructor
 ·refine a0y (P:=fun x=>Reach K i x) (fun x c hx hc=>T5 hx hc) (fun x hx=>?_) n j;rw[qR (by simpa using hi)]at hx;split at hx
  ·rename_i e;rw[e];exact K9 i
  ·rw[E9]at hx;cases hx
 ·intro h;have hst:=a5v (K:=K) hl hc;have:=Qw (P:=fun x=>x<n∧nth false (Z3 K n i) x=true) (fun x c hx hcx=>⟨hK x hx.1 c hcx,by
   have h2:=a5Y hK (o:=rnd K n ((List.replicate n false).set i true) n) (by rw[←(a1k _ n).1,hl]) hx.1 hx.2 hcx;rw[hst]at h2;exact h2⟩) ⟨hi,(a1k _ n).2 i h0⟩ h
  exact this.2
def a3a (K:Nat→List Nat) (o:List Bool) (i:Nat):List Bool:=if ((K i).all fun c=>nth false o c)&&!nth false o i then o.set i true else o
def Z7 (K:Nat→List Nat) (o:List Bool):Nat→List Bool
 |0=>o
 |i+1=>a3a K (Z7 K o i) i
def aa5 (K:Nat→List Nat) (n:Nat) (o:List Bool):Nat→List Bool
 |0=>o
 |r+1=>Z7 K (aa5 K n o r) n
theorem a46(o:List Bool)(i:Nat):Le o (a3a K o i):=by
 unfold a3a;split
 ·exact ak4 o i
 ·exact Qo o
theorem aw5(o:List Bool):∀i,Le o (Z7 K o i)
 |0=>Qo o
 |i+1=>O6 (aw5 o i) (a46 _ i)
theorem at6(o:List Bool)(i:Nat):∀j,Le (Z7 K o i) (Z7 K o (i+j))
 |0=>Qo _
 |j+1=>O6 (at6 o i j) (a46 _ (i+j))
theorem a2d(o:List Bool):∀r,Le o (aa5 K n o r)
 |0=>Qo o
 |r+1=>O6 (a2d o r) (aw5 _ n)
def a79 (K:Nat→List Nat) (o:List Bool):Prop:=(∀x c,nth false o x=true→c∈K x→nth false o c=true)∧∀x,nth false o x=true→∀c,c∈K x→¬Reach K c x
theorem a6Y{o:List Bool}(h:a79 K o)(i:Nat):a79 K (a3a K o i):=by
 unfold a3a;split
 ·rename_i hi;simp only[Bool.and_eq_true,List.all_eq_true,Bool.not_eq_true']at hi;by_cases hl:i<o.length
  ·have hn:∀c,c∈K i→¬Reach K c i:=by
    intro c hc hr;have h2:nth false o i=true:=Qw (P:=fun x=>nth false o x=true) h.1 (hi.1 c hc) hr;rw[hi.2]at h2;cases h2
   have hs:=(ak4 o i).2;refine⟨fun x c hx hc=>?_,fun x hx c hc=>?_⟩
   ·rw[qR hl]at hx;split at hx
    ·rename_i e;subst e;exact hs c (hi.1 c hc)
    ·exact hs c (h.1 x c hx hc)
   ·rw[qR hl]at hx;split at hx
    ·rename_i e;subst e;exact hn c hc
    ·exact h.2 x hx c hc
  ·rw[List.set_eq_of_length_le om0];exact h
 ·exact h
theorem a2T{o:List Bool}(h:a79 K o):∀i,a79 K (Z7 K o i)
 |0=>h
 |i+1=>a6Y (a2T h i) i
theorem a2U{o:List Bool}(h:a79 K o):∀r,a79 K (aa5 K n o r)
 |0=>h
 |r+1=>a2T (a2U h r) n
def QA (K:Nat→List Nat) (n:Nat):List Bool:=aa5 K n (List.replicate n false) n
theorem W8:(QA K n).length=n:=by
 have:=(a2d (K:=K) (n:=n) (List.replicate n false) n).1;rw[List.length_replicate]at this;exact this.symm
theorem aw8(h:cnt (QA K n)=n):a4X K n:=by
 intro i hi c hc;have hs:a79 K (QA K n):=a2U ⟨fun x c hx=>by(rw[E9]at hx;cases hx),fun x hx=>by(rw[E9]at hx;cases hx)⟩ n;exact hs.2 i (a7F (by rw[W8];exact h) (by rw[W8];exact hi)) c hc
theorem a7y(hK:∀i,i<n→∀c,c∈K i→c<n)(ha:a4X K n){i c:Nat}(hi:i<n)(hc:c∈K i):cnt (Z3 K n c)<cnt (Z3 K n i):=by
 have hcn:=hK i hi c hc;refine au8 i ⟨by rw[ZX,ZX],fun j hj=>?_⟩ ?_ ?_
 ·rw[Ql hK hcn]at hj;rw[Ql hK hi];exact Zt hc hj
 ·cases h:nth false (Z3 K n c) i with
  |false=>rfl
  |true=>
   rw[Ql hK hcn]at h;exact absurd h (ha i hi c hc)
 ·rw[Ql hK hi];exact K9 i
theorem a3k{o:List Bool}(hl:o.length=n){i:Nat}(hi:i<n)(h:∀c,c∈K i→nth false o c=true):nth false (Z7 K o n) i=true:=by
 have h1:nth false (Z7 K o (i+1)) i=true:=by
  show nth false (a3a K (Z7 K o i) i) i=true;have hall:((K i).all fun c=>nth false (Z7 K o i) c)=true:=List.all_eq_true.2 fun c hc=>(aw5 (K:=K) o i).2 c (h c hc)
  unfold a3a;rw[hall,Bool.true_and];cases hv:nth false (Z7 K o i) i with
  |true=>simpa using hv
  |false=>
   have hli:i<(Z7 K o i).length:=by rw[←(aw5 (K:=K) o i).1,hl];exact hi
   rw[if_pos (by rfl),qR hli,if_pos rfl]
 have h2:=(at6 (K:=K) o (i+1) (n - (i+1))).2 i h1;rwa[show i+1+(n - (i+1))=n by omega]at h2
theorem a1w(hK:∀i,i<n→∀c,c∈K i→c<n)(ha:a4X K n):cnt (QA K n)=n:=by
 have key:∀r i,i<n→cnt (Z3 K n i)≤r→nth false (aa5 K n (List.replicate n false) r) i=true:=by
  intro r
  induction r with
  |zero=>
   intro i hi h;have hb:nth false (Z3 K n i) i=true:=(Ql hK hi i).2 (K9 i);have:=au8 (a:=List.replicate n false) (b:=Z3 K n i) i ⟨by rw[List.length_replicate,ZX],fun j hj=>by rw[E9]at hj;cases hj⟩ (E9 n i) hb;omega
  |succ r ih=>
   intro i hi h;refine a3k (by rw[←(a2d _ r).1,List.length_replicate]) hi fun c hc=>?_
   have:=a7y hK ha hi hc;exact ih c (hK i hi c hc) om0
 have h2:=a8n (a:=QA K n) fun k hk=>by
  rw[W8]at hk;exact key n k hk (by have:=ax2 (Z3 K n k);rw[ZX]at this;exact this)
 rwa[W8]at h2
theorem a16(hK:∀i,i<n→∀c,c∈K i→c<n):cnt (QA K n)=n↔a4X K n:=⟨aw8,a1w hK⟩
end
end
section
open Go.RowKit
structure Gr where
 sl:List Sl
 ks:List (List (Int × Int))
def kof (ks:List (List (Int × Int))) (i:Nat):List Nat:=(nth [] ks i).map fun h=>h.1.toNat
def T3 (sl:List Sl) (i:Nat) (r:List (Int × Int)):Bool:=decide (r.length≤16)&&((decide (r.length=0)||(nth dSl sl i).live)&&r.all fun h=>qG sl h.1 h.2)
def E8 (g:Gr):Bool:=(List.range g.ks.length).all fun i=>T3 g.sl i (nth [] g.ks i)
def Zh (g:Gr):Bool:=decide (cnt (QA (kof g.ks) g.ks.length)=g.ks.length)
def QV (g:Gr):Bool:=(S5 g.sl&&decide (g.ks.length=g.sl.length))&&(E8 g&&Zh g)
def QE (g:Gr):Int:=if QV g=true then 0 else 8
def zH (g:Gr) (h i:Int × Int):Int:=if QV g=true then(if qG g.sl h.1 h.2=true∧qG g.sl i.1 i.2=true then 0 else 50)else 8
def B4 (g:Gr):Int:=if QV g=true then H7 g.sl else 8
def H5 (g:Gr):Gr:=⟨qP g.sl,if g.ks.length<(qP g.sl).length then g.ks++[[]]else g.ks⟩
def v7 (h:Int × Int) (l:List (Int × Int)):List (Int × Int):=l.filter fun x=>!decide (x=h)
def U3 (g:Gr) (h:Int × Int):Gr:=⟨qK g.sl h.1,(g.ks.map (v7 h)).set h.1.toNat []⟩
def K0 (g:Gr) (h:Int × Int):List (Int × Int):=nth [] g.ks h.1.toNat
def ab7 (g:Gr) (a b:Int × Int):Bool:=nth false (Z3 (kof g.ks) g.ks.length a.1.toNat) b.1.toNat
def put (r:List (Int × Int)) (k:Nat) (c:Int × Int):List (Int × Int):=r.take k++c::r.drop k
def cut (r:List (Int × Int)) (k:Nat):List (Int × Int):=r.take k++r.drop (k+1)
def D5 (g:Gr) (p c:Int × Int) (k:Int):Int:=
 if zH g p c=0 then(if 0≤k∧k≤(K0 g p).length then(if 16≤(K0 g p).length then 9 else if ab7 g c p=true then 60 else 0)else 2)else zH g p c
def ae9 (g:Gr) (p c:Int × Int) (k:Int):Gr:=⟨g.sl,g.ks.set p.1.toNat (put (K0 g p) k.toNat c)⟩
def zO (g:Gr) (p:Int × Int) (k:Int):Int:=
 if zH g p p=0 then(if 0≤k∧k<(K0 g p).length then 0 else 2)else zH g p p
def W6 (g:Gr) (p:Int × Int) (k:Int):Gr:=⟨g.sl,g.ks.set p.1.toNat (cut (K0 g p) k.toNat)⟩
def al6 (g:Gr) (h:Int × Int):Nat→List (Int × Int)
 |0=>[]
 |k+1=>al6 g h k++((nth [] g.ks k).filter fun x=>decide (x=h)).map fun _=>((k:Int),(nth dSl g.sl k).gen)
theorem zx{g:Gr}(h:QV g=true):S5 g.sl=true∧g.ks.length=g.sl.length∧E8 g=true∧Zh g=true:=by
 simp only[QV,Bool.and_eq_true,decide_eq_true_eq]at h;exact⟨h.1.1,h.1.2,h.2.1,h.2.2⟩
theorem a67{g:Gr}(h1:S5 g.sl=true)(h2:g.ks.length=g.sl.length)(h3:E8 g=true)(h4:Zh g=true):QV g=true:=by
 simp only[QV,Bool.and_eq_true,decide_eq_true_eq];exact⟨⟨h1,h2⟩,h3,h4⟩
theorem Qk{g:Gr}(h:E8 g=true){i:Nat}(hi:i<g.ks.length):(nth [] g.ks i).length≤16∧((nth [] g.ks i).length=0∨(nth dSl g.sl i).live=true)∧∀x,x∈nth [] g.ks i→qG g.sl x.1 x.2=true:=by
 have:=List.all_eq_true.1 h i (List.mem_range.2 hi);simp only[T3,Bool.and_eq_true,Bool.or_eq_true,decide_eq_true_eq,List.all_eq_true]at this;exact this
theorem ax4{g:Gr}(h:∀i,i<g.ks.length→(nth [] g.ks i).length≤16∧((nth [] g.ks i).length=0∨(nth dSl g.sl i).live=true)∧∀x,x∈nth [] g.ks i→qG g.sl x.1 x.2=true):E8 g=true:=by
 refine List.all_eq_true.2 fun i hi=>?_
 simp only[T3,Bool.and_eq_true,Bool.or_eq_true,decide_eq_true_eq,List.all_eq_true];exact h i (List.mem_range.1 hi)
theorem J4{ks:List (List (Int × Int))}{i c:Nat}:c∈kof ks i↔∃x,x∈nth [] ks i∧x.1.toNat=c:=by
 simp[kof]
theorem A8{l:List Sl}{s g:Int}(h:qG l s g=true):s.toNat<l.length∧0≤s:=by
 have:=C6.1 h;omega
theorem a7n{g:Gr}(h2:g.ks.length=g.sl.length)(h3:E8 g=true):∀i,i<g.ks.length→∀c,c∈kof g.ks i→c<g.ks.length:=by
 intro i hi c hc;obtain⟨x,hx,rfl⟩:=J4.1 hc;have:=A8 ((Qk h3 hi).2.2 x hx);omega
theorem T8{g:Gr}(h2:g.ks.length=g.sl.length)(h3:E8 g=true):Zh g=true↔a4X (kof g.ks) g.ks.length:=by
 unfold Zh;rw[decide_eq_true_eq];exact a16 (a7n h2 h3)
theorem ax8{g:Gr}(h:QV g=true):a4X (kof g.ks) g.ks.length:=by
 obtain⟨_,h2,h3,h4⟩:=zx h;exact(T8 h2 h3).1 h4
theorem a33{g:Gr}(h:QV g=true){a b:Int × Int}(ha:qG g.sl a.1 a.2=true):ab7 g a b=true↔Reach (kof g.ks) a.1.toNat b.1.toNat:=by
 obtain⟨_,h2,h3,_⟩:=zx h;exact Ql (a7n h2 h3) (by have:=A8 ha;omega) _
theorem ax1{α β:Type}{d:α}{e:β}{f:α→β}(hd:f d=e)(l:List α)(k:Nat):nth e (l.map f) k=f (nth d l k):=by
 unfold nth;simp only[List.getD_eq_getElem?_getD,List.getElem?_map];cases l[k]? with
 |none=>simp[hd]
 |some x=>simp
theorem a4r{r:List (Int × Int)}{k:Nat}{c x:Int × Int}(h:x∈put r k c):x∈r∨x=c:=by
 unfold put at h;rcases List.mem_append.1 h with h|h
 ·exact .inl (List.mem_of_mem_take h)
 ·rcases List.mem_cons.1 h with h|h
  ·exact .inr h
  ·exact .inl (List.mem_of_mem_drop h)
theorem a2a{r:List (Int × Int)}{k:Nat}{c:Int × Int}(hk:k≤r.length):(put r k c).length=r.length+1:=by
 unfold put;rw[List.length_append,List.length_take,List.length_cons,List.length_drop];omega
theorem a8b{r:List (Int × Int)}{k:Nat}{x:Int × Int}(h:x∈cut r k):x∈r:=by
 unfold cut at h;rcases List.mem_append.1 h with h|h
 ·exact List.mem_of_mem_take h
 ·exact List.mem_of_mem_drop h
theorem a5u{r:List (Int × Int)}{k:Nat}:(cut r k).length≤r.length:=by
 unfold cut;rw[List.length_append,List.length_take,List.length_drop];omega
theorem ar0{g:Gr}{p c:Int × Int}{k:Int}(h:D5 g p c k=0):QV g=true∧qG g.sl p.1 p.2=true∧qG g.sl c.1 c.2=true∧0≤k∧k≤(K0 g p).length∧(K0 g p).length<16∧ab7 g c p=false:=by
 unfold D5 at h;split at h
 ·rename_i h1;unfold zH at h1;split at h1
  ·rename_i hg;split at h1
   ·rename_i hh;split at h
    ·rename_i hk;split at h
     ·cases h
     ·rename_i h16;split at h
      ·cases h
      ·rename_i hr;exact⟨hg,hh.1,hh.2,hk.1,hk.2,om0,by simpa using hr⟩
    ·cases h
   ·cases h1
  ·cases h1
 ·rename_i h1;exact absurd h h1
theorem a6W{g:Gr}{p:Nat}{r:List (Int × Int)}(h:QV g=true)(hp:p<g.ks.length)(hl:r.length≤16)(hv:(nth dSl g.sl p).live=true)(hh:∀x,x∈r→qG g.sl x.1 x.2=true):E8 ⟨g.sl,g.ks.set p r⟩=true:=by
 obtain⟨_,_,h3,_⟩:=zx h;refine ax4 fun i hi=>?_
 simp only[List.length_set]at hi ⊢;rw[qR hp];split
 ·rename_i e;subst e;exact⟨hl,.inr hv,hh⟩
 ·exact Qk h3 hi
theorem a6t{g:Gr}{p c:Int × Int}{k:Int}(h:D5 g p c k=0):QV (ae9 g p c k)=true:=by
 obtain⟨hg,hp,hc,k0,k1,h16,hr⟩:=ar0 h;obtain⟨h1,h2,h3,h4⟩:=zx hg;have hpl:=A8 hp;have hrow:=Qk h3 (i:=p.1.toNat) om0;have hpk:(put (K0 g p) k.toNat c).length=(K0 g p).length+1:=a2a om0;have hrows:E8 (ae9 g p c k)=true:=a6W hg om0 (by rw[hpk];omega) (C6.1 hp).2.1 (fun x hx=>by
  rcases a4r hx with hx|rfl
  ·exact hrow.2.2 x hx
  ·exact hc)
 have hlen:(ae9 g p c k).ks.length=(ae9 g p c k).sl.length:=by
  show(g.ks.set _ _).length=g.sl.length;rw[List.length_set,h2]
 refine a67 h1 hlen hrows ((T8 hlen hrows).2 ?_);rw[show(ae9 g p c k).ks.length=g.ks.length by show(g.ks.set _ _).length=_;rw[List.length_set]];refine a4L (p:=p.1.toNat) (x:=c.1.toNat) (fun i y hy=>?_) (ax8 hg) (fun hre=>?_)
 ·obtain⟨x,hx,rfl⟩:=J4.1 hy;have hx':x∈nth [] (g.ks.set p.1.toNat (put (K0 g p) k.toNat c)) i:=hx;rw[qR om0]at hx';split at hx'
  ·rename_i e;subst e;rcases a4r hx' with h5|rfl
   ·exact .inl (J4.2 ⟨x,h5,rfl⟩)
   ·exact .inr ⟨rfl,rfl⟩
  ·exact .inl (J4.2 ⟨x,hx',rfl⟩)
 ·rw[(a33 hg hc).2 hre]at hr;cases hr
theorem a8w{g:Gr}{ks':List (List (Int × Int))}(hg:QV g=true)(hlen:ks'.length=g.ks.length)(hs:∀i,(nth [] ks' i).length≤(nth [] g.ks i).length∧∀x,x∈nth [] ks' i→x∈nth [] g.ks i):QV ⟨g.sl,ks'⟩=true:=by
 obtain⟨h1,h2,h3,h4⟩:=zx hg;have hrows:E8 ⟨g.sl,ks'⟩=true:=ax4 fun i hi=>by
  have hi':i<ks'.length:=hi;have hr:=Qk h3 (i:=i) om0;have:=hs i;show(nth [] ks' i).length≤16∧((nth [] ks' i).length=0∨(nth dSl g.sl i).live=true)∧∀x,x∈nth [] ks' i→qG g.sl x.1 x.2=true;exact⟨om0,hr.2.1.imp (fun e=>om0) id,fun x hx=>hr.2.2 x (this.2 x hx)⟩
 have hl2:(Gr.mk g.sl ks').ks.length=(Gr.mk g.sl ks').sl.length:=by show ks'.length=g.sl.length;omega
 refine a67 h1 hl2 hrows ((T8 hl2 hrows).2 ?_);show a4X (kof ks') ks'.length;rw[hlen];refine a2S (fun i c hc=>?_) (ax8 hg);obtain⟨x,hx,rfl⟩:=J4.1 hc;exact J4.2 ⟨x,(hs i).2 x hx,rfl⟩
theorem a3s{g:Gr}{p:Int × Int}{k:Int}(hg:QV g=true):QV (W6 g p k)=true:=by
 refine a8w hg (by rw[List.length_set]) fun i=>?_
 by_cases hp:p.1.toNat<g.ks.length
 ·rw[qR hp];split
  ·rename_i e;subst e;exact⟨a5u,fun x hx=>a8b hx⟩
  ·exact⟨Nat.le_refl _,fun x hx=>hx⟩
 ·rw[List.set_eq_of_length_le om0];exact⟨Nat.le_refl _,fun x hx=>hx⟩
theorem a1m{l:List Sl}{s g:Int}{x:Int × Int}(h:qG l s g=true)(hx:qG l x.1 x.2=true)(hne:x≠(s,g)):qG (qK l s) x.1 x.2=true:=by
 obtain⟨⟨h0,h1⟩,hv,hg⟩:=C6.1 h;obtain⟨⟨x0,x1⟩,xv,xg⟩:=C6.1 hx;rw[C6];unfold qK;rw[List.length_set,qR om0];have hn:¬x.1.toNat=s.toNat:=by
  intro e;apply hne;apply Prod.ext
  ·show x.1=s;omega
  ·show x.2=g;rw[←xg,←hg,e]
 rw[if_neg hn];exact⟨⟨x0,x1⟩,xv,xg⟩
theorem aw2{g:Gr}{h:Int × Int}(hl:h.1.toNat<g.ks.length)(i:Nat):nth [] (U3 g h).ks i=if i=h.1.toNat then[]else v7 h (nth [] g.ks i):=by
 show nth [] ((g.ks.map (v7 h)).set h.1.toNat []) i=_;rw[qR (by rw[List.length_map];exact hl)];split
 ·rfl
 ·exact ax1 (d:=([]:List (Int × Int))) (e:=[]) (f:=v7 h) rfl g.ks i
theorem ZD{h x:Int × Int}{l:List (Int × Int)}:x∈v7 h l↔x∈l∧x≠h:=by
 simp[v7]
theorem a59{g:Gr}{h:Int × Int}(hg:QV g=true)(hh:qG g.sl h.1 h.2=true):QV (U3 g h)=true:=by
 obtain⟨h1,h2,h3,h4⟩:=zx hg;have hl:=A8 hh;have hlen:(U3 g h).ks.length=(U3 g h).sl.length:=by
  show((g.ks.map (v7 h)).set _ _).length=(qK g.sl h.1).length;rw[List.length_set,List.length_map,qK,List.length_set,h2]
 have hkl:(U3 g h).ks.length=g.ks.length:=by
  show((g.ks.map (v7 h)).set _ _).length=_;rw[List.length_set,List.length_map]
 have hrows:E8 (U3 g h)=true:=ax4 fun i hi=>by
  rw[hkl]at hi;have hr:=Qk h3 hi;rw[aw2 om0];split
  ·exact⟨by simp,.inl rfl,fun x hx=>by simp at hx⟩
  ·rename_i hne;have hle:(v7 h (nth [] g.ks i)).length≤(nth [] g.ks i).length:=List.length_filter_le _ _;refine⟨om0,?_,fun x hx=>a1m hh (hr.2.2 x (ZD.1 hx).1) (ZD.1 hx).2⟩;rcases hr.2.1 with e|e
   ·exact .inl om0
   ·right;show(nth dSl (qK g.sl h.1) i).live=true;unfold qK;rw[qR om0,if_neg hne];exact e
 refine a67 (a1R h1 om0) hlen hrows ((T8 hlen hrows).2 ?_);rw[hkl];refine a2S (fun i c hc=>?_) (ax8 hg);obtain⟨x,hx,rfl⟩:=J4.1 hc;rw[aw2 om0]at hx;split at hx
 ·simp at hx
 ·exact J4.2 ⟨x,(ZD.1 hx).1,rfl⟩
theorem a1g{l:List Sl}{x:Int × Int}(hx:qG l x.1 x.2=true):qG (qP l) x.1 x.2=true:=by
 obtain⟨⟨x0,x1⟩,xv,xg⟩:=C6.1 hx;rw[(a6k x0 x1 om0).1];exact hx
theorem Qc(l:List Sl):(qP l).length=if B3 l<l.length then l.length else l.length+1:=by
 unfold qP;split
 ·rw[List.length_set]
 ·rw[List.length_append];rfl
theorem QQ(g:Gr)(i:Nat):nth [] (H5 g).ks i=nth [] g.ks i:=by
 show nth [] (if g.ks.length<(qP g.sl).length then g.ks++[[]]else g.ks) i=_;split
 ·by_cases hi:i<g.ks.length
  ·rw[zB hi]
  ·rw[zG om0,Q5 (l:=g.ks) om0];unfold nth;cases i - g.ks.length with
   |zero=>rfl
   |succ k=>rfl
 ·rfl
theorem a5P{g:Gr}(hg:QV g=true)(he:H7 g.sl=0):QV (H5 g)=true:=by
 obtain⟨h1,h2,h3,h4⟩:=zx hg;have hml:=Qc g.sl;have hlen:(H5 g).ks.length=(H5 g).sl.length:=by
  show(if g.ks.length<(qP g.sl).length then g.ks++[[]]else g.ks).length=(qP g.sl).length;split at hml
  ·rw[if_neg om0];omega
  ·rw[if_pos om0,List.length_append];simp;omega
 have hkl:g.ks.length≤(H5 g).ks.length:=by
  rw[hlen,h2];exact ay4 g.sl
 have hrows:E8 (H5 g)=true:=ax4 fun i hi=>by
  rw[QQ];by_cases hin:i<g.ks.length
  ·have hr:=Qk h3 hin;refine⟨hr.1,?_,fun x hx=>a1g (hr.2.2 x hx)⟩;rcases hr.2.1 with e|e
   ·exact .inl e
   ·right;show(nth dSl (qP g.sl) i).live=true;unfold qP;split
    ·rename_i hf;rw[qR hf];split
     ·rfl
     ·exact e
    ·rw[zB om0];exact e
  ·rw[Q5 om0];exact⟨by simp,.inl rfl,fun x hx=>by simp at hx⟩
 refine a67 (a5w he) hlen hrows ((T8 hlen hrows).2 ?_);intro i hi c hc hr;have hk:∀i c,c∈kof (H5 g).ks i→c∈kof g.ks i:=fun i c h=>by
  obtain⟨x,hx,rfl⟩:=J4.1 h;rw[QQ]at hx;exact J4.2 ⟨x,hx,rfl⟩
 by_cases hin:i<g.ks.length
 ·exact ax8 hg i hin c (hk i c hc) (a0O hk hr)
 ·obtain⟨x,hx,_⟩:=J4.1 (hk i c hc);rw[Q5 om0]at hx;simp at hx
def a90 (l:List (Int × Int)) (h:Int × Int):Nat:=(l.filter fun x=>decide (x=h)).length
end
section
open Go.RowKit
theorem Own.swap{α:Type}{f:α→List Value}{T T':World}{y:List ad4}{ao:Option Addr}{n cap c:Nat}{l:List α}{e:TypeId}(h:Own e c f T (Go.Proofs.YtcekcihijdipoaaGreat.plus T y) ao n cap l)(hT:T'.heap.size=T.heap.size):Own e c f T' (Go.Proofs.YtcekcihijdipoaaGreat.plus T' y) ao n cap l:=by
 refine⟨h.1,h.2.1,h.2.2.imp id ?_⟩;rintro⟨g,cp,cur,h1,h2,h3,h4⟩;refine⟨g,cp,cur,h1,om0,?_,h4⟩;have h5:(Go.Proofs.YtcekcihijdipoaaGreat.plus T y).heap[g]?=(Go.Proofs.YtcekcihijdipoaaGreat.plus T' y).heap[g]?:=by
  simp only[Go.Proofs.YtcekcihijdipoaaGreat.plus,Array.getElem?_append,show¬g<T.heap.size by omega,if_false,hT]
 rw[←h5];exact h3
end
end Go.Proofs.YtcekcihijdipoaaGreat
