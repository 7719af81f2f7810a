/- A pack of texts: Ext, Law, Flat, Lay, FixedMath, VecMath, MeshMath, Open, Mix, MeshMath2. -/
import Derived.WalkKit
import Derived.ProofKit
import Derived.OpenShut
import Derived.BigQuiet
import Derived.WalkSpells
import Derived.Deep.RegionWith
import Derived.LoopN
import Derived.Test.YtcekcihijdipoaaGreatRows
import Derived.Lib.SmallJoins
import Derived.Deep.AppendLies
import Derived.RowKit
import Derived.Deep.Slices
namespace Go.Proofs.YtcekcihijdipoaaGreat
theorem dc0{p:Prop}(h:p:=by decide):p:=h
theorem om0{p:Prop}(h:p:=by omega):p:=h
theorem kr0{p:Prop}(h:p:=by kernel_rfl):p:=h
section
open Go.RowKit
structure ad4 where
 blocks:Array Obj
 draws:Nat
def blocks (x:List ad4):Array Obj:=match x with|m::_=>m.blocks|[]=>#[]
def draws (x:List ad4):Nat:=match x with|m::_=>m.draws|[]=>0
def plus (w:World) (x:List ad4):World:={w with heap:=w.heap++blocks x,drawn:=draws x}
theorem qn(w:World)(x:List ad4):(plus w x).heap.size=w.heap.size+(blocks x).size:=by
 simp[plus]
theorem M8(w:World)(x:List ad4)(n:Nat)(h:n<w.heap.size):(plus w x).heap[n]?=w.heap[n]?:=by
 simp[plus,Array.getElem?_append,h]
theorem ap5(w:World)(x:List ad4)(n i:Nat)(h:n<w.heap.size):(plus w x).cell? ⟨n,i,none⟩=w.cell? ⟨n,i,none⟩:=
 World.cell?_of_block (w:=w) (M8 w x n h)
theorem a1L(w:World)(x:List ad4)(n i:Nat)(h:n<w.heap.size):(plus w x).frozen? ⟨n,i,none⟩=w.frozen? ⟨n,i,none⟩:=
 World.frozen?_of_block (w:=w) (M8 w x n h)
theorem qZ(w:World)(x:List ad4):(plus w x).drew=plus w [⟨blocks x,draws x+1⟩]:=rfl
theorem A3(w:World)(x:List ad4):Below w.heap.size w (plus w x):=
 ⟨rfl,rfl,rfl,by simp[plus],fun n h=>M8 w x n h⟩
theorem C3{w w':World}(h:Below w.heap.size w w'):∃x,w'=plus w x:=by
 obtain⟨ho,ht,hp,hs,hb⟩:=h;refine⟨[⟨w'.heap.extract w.heap.size w'.heap.size,w'.drawn⟩],?_⟩;have e:w'.heap=w.heap++w'.heap.extract w.heap.size w'.heap.size:=by
  apply Array.ext_getElem?;intro i;by_cases hi:i<w.heap.size
  ·rw[hb i hi,Array.getElem?_append,if_pos hi]
  ·rw[Array.getElem?_append,if_neg hi,Array.getElem?_extract];by_cases h2:i<w'.heap.size
   ·rw[if_pos om0]
    congr 1
    omega
   ·rw[if_neg om0];simp;omega
 cases w';simp only[plus,blocks,draws]at*;subst ho ht hp;rw[←e]
theorem a05(w:World)(x:List ad4)(n i:Nat)(v:Value)(h:n<w.heap.size):
  (plus w x).setCell ⟨n,i,none⟩ v=plus (w.setCell ⟨n,i,none⟩ v) x:=by
 unfold World.setCell plus
 congr 1
 apply Array.ext_getElem?;intro k;simp only[Array.getElem?_modify,Array.getElem?_append,Array.size_modify];by_cases hk:n=k
 ·subst hk;simp[h]
 ·simp[hk]
def a7Y (w:World) (x:List ad4) (n i:Nat):Option Value:=(plus w x).cell? ⟨n,i,none⟩
def a5i (w:World) (x:List ad4) (n i:Nat):Bool:=(plus w x).frozen? ⟨n,i,none⟩
def a8N (w:World) (x:List ad4) (n i:Nat) (v:Value):World:=(plus w x).setCell ⟨n,i,none⟩ v
theorem t5(w:World)(x:List ad4)(n i:Nat):(plus w x).cell? ⟨n,i,none⟩=if n<w.heap.size then w.cell? ⟨n,i,none⟩else a7Y w x n i:=by
 split
 ·exact ap5 w x n i (by assumption)
 ·rfl
theorem qJ(w:World)(x:List ad4)(n i:Nat):(plus w x).frozen? ⟨n,i,none⟩=if n<w.heap.size then w.frozen? ⟨n,i,none⟩else a5i w x n i:=by
 split
 ·exact a1L w x n i (by assumption)
 ·rfl
theorem zf(w:World)(x:List ad4)(n i:Nat)(v:Value):(plus w x).setCell ⟨n,i,none⟩ v=if n<w.heap.size then plus (w.setCell ⟨n,i,none⟩ v) x else a8N w x n i v:=by
 split
 ·exact a05 w x n i v (by assumption)
 ·rfl
theorem ak6(w:World)(n i:Nat)(h:w.heap.size≤n):w.cell? ⟨n,i,none⟩=none:=by
 simp[World.cell?,Array.getElem?_eq_none h]
theorem qO(w:World)(c:Array Value)(t:TypeId)(n i:Nat):(w.alloc (.cells c t)).cell? ⟨n,i,none⟩=if n=w.heap.size then c[i]? else w.cell? ⟨n,i,none⟩:=by
 split
 ·exact World.cell?_alloc_at _ _ _ _ (by assumption)
 ·by_cases h:n<w.heap.size
  ·exact World.cell?_alloc_past _ _ _ h
  ·rw[ak6 _ _ _ (by simp;omega),ak6 _ _ _ om0]
theorem al5(w:World)(n i:Nat)(h:w.heap.size≤n):w.frozen? ⟨n,i,none⟩=false:=by
 simp[World.frozen?,Array.getElem?_eq_none h]
theorem qD(w:World)(c:Array Value)(t:TypeId)(n i:Nat):(w.alloc (.cells c t)).frozen? ⟨n,i,none⟩=if n=w.heap.size then false else w.frozen? ⟨n,i,none⟩:=by
 split
 ·exact World.frozen?_alloc_at _ _ _ _ (by assumption)
 ·by_cases h:n<w.heap.size
  ·exact World.frozen?_alloc_past _ _ _ h
  ·rw[al5 _ _ _ (by simp;omega),al5 _ _ _ om0]
theorem a23(w:World)(n i:Nat)(v:Value)(h:w.heap.size≤n):w.setCell ⟨n,i,none⟩ v=w:=by
 unfold World.setCell
 congr 1
 apply Array.ext_getElem?;intro k;rw[Array.getElem?_modify];split
 ·rename_i e;subst e;simp[Array.getElem?_eq_none h]
 ·rfl
theorem t6(w:World)(c:Array Value)(t:TypeId)(n i:Nat)(v:Value):(w.alloc (.cells c t)).setCell ⟨n,i,none⟩ v=if n=w.heap.size then w.alloc (.cells (c.setIfInBounds i v) t)else(w.setCell ⟨n,i,none⟩ v).alloc (.cells c t):=by
 split
 ·exact World.setCell_alloc_at _ _ _ _ _ (by assumption)
 ·by_cases h:n<w.heap.size
  ·exact World.setCell_alloc_past _ _ _ _ h
  ·rw[a23 _ _ _ _ (by simp;omega),a23 _ _ _ _ om0]
theorem C8{P:Program}{f:FuncId}{args:Array Value}{w:World}{x:List ad4}{v:Value}
  (h:Calls P f args (plus w x) fun e w'=>e=.returned v∧Below (plus w x).heap.size (plus w x) w'):Calls P f args (plus w x) fun e w'=>e=.returned v∧∃y,w'=plus w y:=
 h.mono fun _ _ ⟨he,hb⟩=>⟨he,C3 ((A3 w x).trans (hb.mono (by rw[qn];omega)))⟩
theorem A4{P:Program}{f:FuncId}{args:Array Value}{w:World}{v:Value}
  (h:Calls P f args w fun e w'=>e=.returned v∧Below w.heap.size w w'):Calls P f args w fun e w'=>e=.returned v∧∃y,w'=plus w y:=
 h.mono fun _ _ ⟨he,hb⟩=>⟨he,C3 hb⟩
theorem pq0{P:Program}{F:FuncId}{args:Array Value}{w:World}{v:Value}{Q:Ending→World→Prop}(h:Calls P F args w fun e w'=>e=.returned v∧∃x,w'=plus w x)(k:∀x,Q (.returned v) (plus w x)):Calls P F args w Q:=h.mono (by rintro e w' ⟨rfl,x,rfl⟩;exact k x)
theorem pm0{P:Program}{F:FuncId}{args:Array Value}{w:World}{v:Value}{Q:Ending→World→Prop}(h:Calls P F args w fun e w'=>e=.returned v∧Below w.heap.size w w')(k:∀x,Q (.returned v) (plus w x)):Calls P F args w Q:=pq0 (A4 h) k
theorem qg{P:Program}{id:Nat}{Q:Exit→Act→World→Prop}{a:Act}{w:World}{l:List Oper}(hm:P.follows .mixedOrders=true)(hB:Region.lexB .any l.toArray=true)
  (h:wpQuiet P l.toArray (fun w'=>∃x,w'=plus w x) (fun a'=>∀w',(∃x,w'=plus w x)→Q .normal a' w') l a):(Code.region id l.toArray true).wp P Q a w:=
 wp_region_quiet (C:=fun w'=>∃x,w'=plus w x) hm hB ⟨[⟨#[],w.drawn+1⟩],by simp[plus,blocks,draws]⟩ (by simpa using h)
theorem ba{a w:World}{o:Obj}(h:Below a.heap.size a w):Below a.heap.size a (w.alloc o):=h.alloc h.size o
theorem bp{a w:World}{x:List ad4}(h:Below a.heap.size a w):Below a.heap.size a (plus w x):=h.trans ((A3 w x).mono h.size)
theorem bd{a w:World}(h:Below a.heap.size a w):Below a.heap.size a w.drew:=h.drew
theorem bn{a w:World}{n:Nat}(h:Below a.heap.size a w):Below a.heap.size a (w.drewN n):=⟨h.os,h.tape,h.output,h.size,h.block⟩
theorem skB{n:Nat}{w w':World}(h:Below n w w':=by with_reducible repeat(first|exact Below.refl _ _|apply ba|apply bp|apply bd|apply bn)):Below n w w':=h
theorem A2(w:World)(n:Nat)(a:Addr)(v:Value):(w.drewN n).setCell a v=(w.setCell a v).drewN n:=rfl
theorem zg(w:World)(n:Nat)(o:Obj):(w.drewN n).alloc o=(w.alloc o).drewN n:=rfl
theorem zz(w:World)(n:Nat)(x:List ad4):(plus w x).drewN n=plus w [⟨blocks x,draws x+n⟩]:=rfl
theorem zA(w:World)(n:Nat)(x:List ad4):plus (w.drewN n) x=plus w x:=rfl
theorem j5(w:World):∃x,w=plus w x:=⟨[⟨#[],w.drawn⟩],by simp[plus,blocks,draws]⟩
theorem zt{W T:World}{y:List ad4}(h:∃x,W=plus T x):∃x,plus W y=plus T x:=by
 obtain⟨x,rfl⟩:=h;exact⟨[⟨blocks x++blocks y,draws y⟩],by simp[plus,blocks,draws]⟩
theorem qE{W T:World}{o:Obj}(h:∃x,W=plus T x):∃x,W.alloc o=plus T x:=by
 obtain⟨x,rfl⟩:=h;exact⟨[⟨blocks x++#[o],draws x⟩],by simp[plus,blocks,draws,World.alloc]⟩
theorem al9{W T:World}(h:∃x,W=plus T x):∃x,W.drew=plus T x:=by
 obtain⟨x,rfl⟩:=h;exact⟨_,qZ T x⟩
theorem ab5{W T:World}{n:Nat}(h:∃x,W=plus T x):∃x,W.drewN n=plus T x:=by
 obtain⟨x,rfl⟩:=h;exact⟨_,zz T n x⟩
theorem aD7{P:Program}{c:Code}{Q:Exit→Act→World→Prop}{n:Nat}{a:Act}{W:World}(T:World)(h:∃x,W=plus T x)(k:∀x,Code.rounds P c Q n a (plus T x)):Code.rounds P c Q n a W:=by
 obtain⟨x,rfl⟩:=h;exact k x
end
open Go.RowKit Go.ChangeShapes Go.WideShapes Go.ChangeAt
section
theorem own:ownKnob Tryz.prog.godebug=none:=kr0
theorem a7E:laidOutB Tryz.prog=true:=kr0
section
variable {H:Type} {enc:TypeId × Value→H} {P:Program}
theorem a02(hl:laidOutB P=true){W W':World}(hb:Below W.heap.size W W'):
  ∀(ts:List TypeId) (vs:List Value) (ds:List (DataW H)) (ps:List MemPlace),(ts.all fun t=>P.readableRec t&&decide (t<P.types.size))=true→
   DataW.TrodAll enc P W 0 (fun _=>true) true ts vs ds ps→DataW.TrodAll enc P W' 0 (fun b=>decide (b<W.heap.size)) true ts vs ds ps
 |[],vs,ds,ps,_,h=>by
  obtain⟨rfl,rfl,rfl⟩:=trodAll_nil h;exact trodAll_mk0
 |t::ts,vs,ds,ps,hr,h=>by
  simp only[List.all_cons,Bool.and_eq_true,decide_eq_true_eq]at hr;obtain⟨v,vs',d,ds',p,q,rfl,rfl,rfl,h0,h1⟩:=trodAll_cons h;have hlt:∀x∈p,x.block<W.heap.size:=by obtain⟨m,hm⟩:=h0;exact DataW.trod_lt m _ _ _ hm
  exact trodAll_cons_mk (Below.trod hl hr.1.1 hr.1.2 h0 hb hlt) (a02 hl hb ts vs' ds' q (by simpa using hr.2) h1)
theorem ar3{W:World}:∀(ts:List TypeId) (vs:List Value) (ds:List (DataW H)) (ps:List MemPlace),
  DataW.TrodAll enc P W 0 (fun _=>true) true ts vs ds ps→ds.length=ts.length
 |[],vs,ds,ps,h=>by
  obtain⟨rfl,rfl,rfl⟩:=trodAll_nil h;rfl
 |t::ts,vs,ds,ps,h=>by
  obtain⟨v,vs',d,ds',p,q,rfl,rfl,rfl,h0,h1⟩:=trodAll_cons h;simp[ar3 ts vs' ds' q h1]
theorem a6V(hl:laidOutB P=true){fn:Func}{s:ChangeSpec}{T:TypeId}{W W':World}{args:Array Value}{ds gs:List (DataW H)}{before:List MemPlace}
  (hT:P.underlying T=some .bool) (hv:s.vars=[]) (hr:fn.resultTypes=#[T]) (hp:(fn.params.toList.all fun t=>P.readableRec t&&decide (t<P.types.size))=true)
  (hfn:∀ds:List (DataW H),ds.length=fn.params.toList.length→s.fn H (ds++[])={results:=[.lit (.bool true)],args:=ds,vars:=[]})
  (hW:DataW.Whole enc P fn.params.toList s.vars false W args.toList ds gs before) (hb:Below W.heap.size W W'):
  s.post enc P fn false true false false W args (.bool true) W':=by
 have hW':=hW;obtain⟨p,q,hA,hV,rfl,_,_⟩:=hW;rw[hv]at hV;obtain⟨rfl,rfl⟩:=trodVars_none hV;have hf:=hfn ds (ar3 _ _ _ _ hA);refine⟨ds,[],_,[],p,[],hW',?_,?_,?_,hb.frame _,fun h=>by cases h⟩
 ·rw[hf,hr];exact trodAll_mk1 (shut_bool hT _)
 ·rw[hf];exact a02 hl hb _ _ _ _ hp hA
 ·rw[hf,hv];rfl
end
end
section
def ak0 (P:Program):Nat→TypeId→Bool
 |0,_=>false
 |k+1,t=>match P.underlying t with
  |some (.int .i64)=>true
  |some (.struct fs)=>fs.toList.all (fun f=>ak0 P k f.type)&&(List.range (P.cellsOf t)).all fun j=>fs.toList.any fun f=>decide (f.offset≤j)&&decide (j<f.offset+P.cellsOf f.type)
  |some (.array n e)=>ak0 P k e&&(List.range (P.cellsOf t)).all fun j=>(List.range n).any fun i=>decide (i*P.cellsOf e≤j)&&decide (j<i*P.cellsOf e+P.cellsOf e)
  |_=>false
def a93 (P:Program) (t:TypeId):Bool:=match P.underlying t with|some (.struct _)|some (.array _ _)=>true|_=>false
section
variable {H:Type} {enc:TypeId × Value→H} {P:Program} {W:World} {base:Nat} {spare:Nat→Bool} {held:Bool}
theorem a2F{cs:List Value}{j o s:Nat}{c:Value}(hc:cs[j]?=some c)(h1:o≤j)(h2:j<o+s):c∈(cs.drop o).take s:=by
 apply List.mem_of_getElem? (i:=j - o);rw[List.getElem?_take,if_pos om0,List.getElem?_drop,show o+(j - o)=j by omega];exact hc
theorem J7:∀(k:Nat) (t:TypeId) (fuel:Nat) (cs:List Value) (x:DataW H × List MemPlace),ak0 P k t=true→DataW.trod enc P W base spare held fuel t cs=some x→
  ∀c∈cs,∃n:Int,c=.int .i64 n∧ -9223372036854775808≤n∧n≤9223372036854775807
 |0,_,_,_,_,hf,_=>by simp[ak0]at hf
 |k+1,t,fuel,cs,x,hf,h=>by
  intro c hc;obtain⟨j,hj⟩:=List.getElem?_of_mem hc;unfold ak0 at hf;split at hf
  ·rename_i hu;obtain⟨n,e,_,hw⟩:=DataW.trod_int hu h;subst e;simp only[List.mem_singleton]at hc;exact⟨n,hc,bounds_i64 hw⟩
  ·rename_i fs hu;obtain⟨xs,m,rfl,_,hl,hxl,hall⟩:=DataW.trod_struct hu h;simp only[Bool.and_eq_true]at hf;have hjl:j<cs.length:=(List.getElem?_eq_some_iff.1 hj).1;obtain⟨f,hfm,hin⟩:=List.any_eq_true.1 (List.all_eq_true.1 hf.2 j (List.mem_range.2 om0));simp only[Bool.and_eq_true,decide_eq_true_eq]at hin;obtain⟨i,hi⟩:=List.getElem?_of_mem hfm;have hff:=List.all_eq_true.1 hf.1 f hfm;have hfi:fs[i]?=some f:=by simpa using hi
   have hil:i<fs.size:=(Array.getElem?_eq_some_iff.1 hfi).1;have hy:=hall i f hfi;rw[List.getElem?_eq_getElem om0]at hy;exact J7 k f.type m _ _ hff hy c (a2F hj hin.1 hin.2)
  ·rename_i n e hu;obtain⟨xs,m,rfl,_,hl,hxl,hall⟩:=DataW.trod_array hu h;simp only[Bool.and_eq_true]at hf;have hjl:j<cs.length:=(List.getElem?_eq_some_iff.1 hj).1;obtain⟨i,him,hin⟩:=List.any_eq_true.1 (List.all_eq_true.1 hf.2 j (List.mem_range.2 om0));simp only[Bool.and_eq_true,decide_eq_true_eq]at hin;have hi:=List.mem_range.1 him;have hy:=hall i hi;rw[List.getElem?_eq_getElem om0]at hy;exact J7 k e m _ _ hf.1 hy c (a2F hj hin.1 hin.2)
  ·cases hf
end
end
section
open Go.RowKit
section
variable {α:Type} {f:α→List Value} {P:Program} {w w' T T':World} {ao ao2:Option Addr} {n m cap c:Nat} {l l2:List α} {e:TypeId}
structure Lay (f:α→List Value) (w:World) (ao:Option Addr) (n:Nat) (l:List α):Prop where
 len:l.length=n
 at0:n=0∨∃g off,ao=some ⟨g,off,none⟩∧g<w.heap.size∧∀j u,(l.flatMap f)[j]?=some u→w.cell? ⟨g,off+j,none⟩=some u
theorem Lay.plus(h:Lay f w ao n l)(x:List ad4):Lay f (plus w x) ao n l:=
 ⟨h.len,h.at0.imp id fun⟨g,off,e,hg,hc⟩=>⟨g,off,e,by rw[qn];omega,fun j u hu=>by rw[ap5 _ _ _ _ hg];exact hc j u hu⟩⟩
theorem Lay.ex(h:Lay f w ao n l)(hw:∃x,w'=Go.Proofs.YtcekcihijdipoaaGreat.plus w x):Lay f w' ao n l:=by
 obtain⟨x,rfl⟩:=hw;exact h.plus x
theorem Lay.nil:Lay f w ao 0 []:=⟨rfl,.inl rfl⟩
theorem Lay.zero(h:Lay f w ao 0 l):l=[]:=List.eq_nil_of_length_eq_zero h.len
theorem Lay.some(h:Lay f w ao n l)(hn:0<n):∃g off,ao=some ⟨g,off,none⟩∧g<w.heap.size∧∀j u,(l.flatMap f)[j]?=some u→w.cell? ⟨g,off+j,none⟩=some u:=
 h.at0.resolve_left om0
theorem zE(hc:∀x,(f x).length=c):∀l:List α,(l.flatMap f).length=l.length*c
 |[]=>by simp
 |a::l=>by rw[List.flatMap_cons,List.length_append,hc,zE hc l,List.length_cons,Nat.succ_mul];omega
theorem ad7(hc:∀x,(f x).length=c):∀(l:List α) (k:Nat) (hk:k<l.length) (j:Nat),j<c→(l.flatMap f)[k*c+j]?=(f l[k])[j]?
 |[],k,hk,_,_=>by simp at hk
 |a::l,0,_,j,hj=>by rw[List.flatMap_cons,Nat.zero_mul,Nat.zero_add,List.getElem?_append_left (by rw[hc];exact hj)];rfl
 |a::l,k+1,hk,j,hj=>by
  rw[List.flatMap_cons,List.getElem?_append_right (by rw[hc,Nat.succ_mul];omega),hc,show(k+1)*c+j - c=k*c+j by rw[Nat.succ_mul];omega];exact ad7 hc l k (by simpa using hk) j hj
theorem Zy(h1:∀x,∀u∈f x,u.oneCell'=true)(l:List α):∀u∈l.flatMap f,u.oneCell'=true:=by
 intro u hu;obtain⟨x,_,hx⟩:=List.mem_flatMap.1 hu;exact h1 x u hx
def nth (d:α) (l:List α) (k:Nat):α:=l.getD k d
theorem Qv{d:α}{l:List α}{k:Nat}(hk:k<l.length):nth d l k=l[k]:=by simp[nth,hk]
theorem zB{d:α}{l l2:List α}{k:Nat}(hk:k<l.length):nth d (l++l2) k=nth d l k:=by
 simp[nth,List.getElem?_append,hk]
theorem zG{d:α}{l l2:List α}{k:Nat}(hk:l.length≤k):nth d (l++l2) k=nth d l2 (k - l.length):=by
 have:¬k<l.length:=om0;simp[nth,List.getElem?_append,this]
theorem Q0{d:α}{g:Nat→α}{n k:Nat}(hk:k<n):nth d ((List.range n).map g) k=g k:=by
 simp[nth,hk]
theorem F3{d:α}{l:List α}{k:Nat}(hk:k<l.length):nth d l k∈l:=by rw[Qv hk];exact List.getElem_mem _
theorem P1{d:α}{l:List α}{k:Nat}(hk:k<l.length):l.take (k+1)=l.take k++[nth d l k]:=by
 rw[List.take_add_one,Qv hk];simp[hk]
theorem aw7{d:α}{l l2:List α}(h:l.length=l2.length)(hk:∀k,k<l.length→nth d l k=nth d l2 k):l=l2:=by
 apply List.ext_getElem h;intro k h1 h2;have:=hk k h1;rwa[Qv h1,Qv h2]at this
theorem A6{d:α}{g off:Nat}(hl:l.length=n)(hc:∀x,(f x).length=c)(h:∀j u,(l.flatMap f)[j]?=some u→w.cell? ⟨g,off+j,none⟩=some u)
  (k j:Nat) (u:Value) (hk:k<n) (hj:j<c) (hu:(f (nth d l k))[j]?=some u):w.cell? ⟨g,off+(k*c+j),none⟩=some u:=by
 subst hl;refine h _ u ?_;rw[ad7 hc l k hk j hj,←Qv hk];exact hu
def Own (e:TypeId) (c:Nat) (f:α→List Value) (T w:World) (ao:Option Addr) (n cap:Nat) (l:List α):Prop:=
 l.length=n∧w.ownsRow T.heap.size e c (.slice ao n cap) n (l.flatMap f)
theorem zd:Own e c f T w none 0 0 []:=⟨rfl,World.ownsRow_nil w _ _ _⟩
theorem Own.plus(h:Own e c f T w ao n cap l)(x:List ad4):Own e c f T (plus w x) ao n cap l:=
 ⟨h.1,World.ownsRow.kept h.2 (row:=none) ⟨rfl,rfl,rfl,by simp[Go.Proofs.YtcekcihijdipoaaGreat.plus],fun k hk _=>M8 w x k hk⟩ (by cases h:Value.ownBlock (.slice ao n cap)<;>simp)⟩
theorem Own.ex(h:Own e c f T w ao n cap l)(hw:∃x,w'=Go.Proofs.YtcekcihijdipoaaGreat.plus w x):Own e c f T w' ao n cap l:=by
 obtain⟨x,rfl⟩:=hw;exact h.plus x
theorem Own.lay(h:Own e c f T w ao n cap l):Lay f w ao n l:=by
 refine⟨h.1,?_⟩;by_cases hn:n=0
 ·exact .inl hn
 right;obtain⟨g,cap',e1,_,hlt⟩:=World.ownsRow.form h.2 om0;simp only[Value.slice.injEq,true_and]at e1;obtain⟨rfl,rfl⟩:=e1;refine⟨g,0,rfl,hlt,fun j u hu=>?_⟩;have:=World.ownsRow.cells h.2 (g:=g) rfl j u hu;rw[Nat.zero_add];have hadd:(⟨g,0,none⟩:Addr).add j=⟨g,j,none⟩:=by unfold Addr.add;split<;>simp_all
 rwa[hadd]at this
theorem Own.base(h:Own e c f T w ao n cap l)(hT:T'.heap.size≤T.heap.size):Own e c f T' w ao n cap l:=by
 refine⟨h.1,h.2.1,h.2.2.imp id ?_⟩;rintro⟨g,cp,cur,h1,h2,h3⟩;exact⟨g,cp,cur,h1,om0,h3⟩
structure Kin (P:Program) (t e:TypeId) (c b:Nat):Prop where
 und:P.underlying t=Option.some (.slice e)
 info:∃i z,P.info? e=Option.some i∧i.zero=Option.some z∧i.size=c∧i.bytes=b∧z.cells.size=c
 pos:0<c
theorem QM{t ty:TypeId}{b:Nat}(hk:Kin P t e c b)(hn:n≤cap)(c2:Nat):
  (Builtin.append_ #[t,t] ty #[.slice ao n cap,.slice ao2 0 c2]).run P w=.ok (.slice ao n cap) w:=by
 obtain⟨i,z,hi,_⟩:=hk.info;cases ao<;>cases ao2<;>simp[Builtin.append_,run_underlying hk.und,sizeOf,typeInfo,hi,Builtin.lenOf,Builtin.firstCells,storeCells,loadCells,loadCellsFrom,hn]
theorem aq4{t ty:TypeId}{b:Nat}(hk:Kin P t e c b)(hc:∀x,(f x).length=c)(h1:∀x,∀u∈f x,u.oneCell'=true)
  (hT:∃y,w=plus T y) (hown:Own e c f T w ao n cap l) (c2:Nat) (hl:Lay f w ao2 m l2) (hm:n+m≤maxLen) (hb:(n+m)*b≤140737488355328):
  ∃ao' cap' y,(Builtin.append_ #[t,t] ty #[.slice ao n cap,.slice ao2 m c2]).run P w=.ok (.slice ao' (n+m) cap') (plus T y)∧Own e c f T (plus T y) ao' (n+m) cap' (l++l2):=by
 by_cases h0:m=0
 ·subst h0;have hnc:n≤cap:=by
   rcases hown.2.2 with⟨e,_⟩|⟨g,cp,cur,e,_,_,hcp,_⟩
   ·simp only[Value.slice.injEq]at e;omega
   ·simp only[Value.slice.injEq]at e;omega
  obtain⟨y,rfl⟩:=hT;refine⟨ao,cap,y,QM hk hnc c2,?_⟩;rw[hl.zero,List.append_nil,Nat.add_zero];exact hown
 obtain⟨g,off,rfl,hg,hcell⟩:=hl.some om0;obtain⟨i,z,hi,hz,hz1,hz2,hz3⟩:=hk.info;obtain⟨y,rfl⟩:=hT;obtain⟨v',w1,hr,ho,hgr,_,_⟩:=run_append_own_at (P:=P) (plus T y) T.heap.size t ty e i z c b hk.und hi hz hz1 hz2 hz3 hk.pos (.slice ao n cap) n (l.flatMap f) hown.2 ⟨g,off,none⟩ m c2 (l2.flatMap f)
  (by rw[zE hc,hl.len]) (fun j u hu=>by have hadd:(⟨g,off,none⟩:Addr).add j=⟨g,off+j,none⟩:=(by unfold Addr.add;split<;>simp_all);rw[hadd];exact hcell j u hu) (Zy h1 l2) hm hb (by rw[qn];omega)
 have hB:Below T.heap.size T w1:=(A3 T y).grown hgr (by rw[qn];omega) (fun k hk=>(World.ownsRow.lt hown.2 k hk).1);obtain⟨y',rfl⟩:=C3 hB;obtain⟨g',cap',rfl,_,_⟩:=World.ownsRow.form ho om0;exact⟨_,cap',y',hr,by rw[List.length_append,hown.1,hl.len],by rw[List.flatMap_append];exact ho⟩
end
section
variable {α:Type} {f:α→List Value} {P:Program} {w T:World} {ao ao2:Option Addr} {n m cap c c2:Nat} {l l2:List α} {e t:TypeId} {b:Nat} {o:Oper} {a:Act} {K:Act→World→Prop} {Q:Exit→Act→World→Prop}
theorem U6(s x:Operand)(ho:o.op=.call {callee:=.builtin .append,args:=#[s,x],argTypes:=#[t,t]})(hk:Kin P t e c b)(hc:∀x,(f x).length=c)(h1:∀x,∀u∈f x,u.oneCell'=true)
  (hs:a.eval s=.slice ao n cap) (hT:∃y,w=plus T y) (hown:Own e c f T w ao n cap l) (hx:a.eval x=.slice ao2 m c2) (hl:Lay f w ao2 m l2) (hm:n+m≤100000) (hb:b≤100000)
  (h:∀ao' cap' y,Own e c f T (plus T y) ao' (n+m) cap' (l++l2)→K (a.put o.dst (.slice ao' (n+m) cap')) (plus T y)):o.wp P a w K Q:=by
 obtain⟨ao',cap',y,hr,h2⟩:=aq4 (ty:=o.type) hk hc h1 hT hown c2 hl (by unfold maxLen;omega) (Nat.le_trans (Nat.mul_le_mul hm hb) dc0);unfold Oper.wp execOp;simp only[ho,resolve,invoke,builtin,Sem.run_bind,Sem.run_pure,Result.andThen_ok,List.map_toArray,List.map_cons,List.map_nil,hs,hx,hr];exact h ao' cap' y h2
theorem qo{ops:Array Oper}{rest:List Oper}(hgd:o.guard=none)(s x:Operand)(ho:o.op=.call {callee:=.builtin .append,args:=#[s,x],argTypes:=#[t,t]})(hk:Kin P t e c b)(hc:∀x,(f x).length=c)(h1:∀x,∀u∈f x,u.oneCell'=true)
  (hs:a.eval s=.slice ao n cap) (hT:∃y,w=plus T y) (hown:Own e c f T w ao n cap l) (hx:a.eval x=.slice ao2 m c2) (hl:Lay f w ao2 m l2) (hm:n+m≤100000) (hb:b≤100000)
  (h:∀ao' cap' y,Own e c f T (plus T y) ao' (n+m) cap' (l++l2)→wpList P ops Q rest (a.put o.dst (.slice ao' (n+m) cap')) (plus T y)):wpList P ops Q (o::rest) a w:=
 wpList_plain hgd fun _ hK=>U6 s x ho hk hc h1 hs hT hown hx hl hm hb fun ao' cap' y h2=>hK _ _ (h ao' cap' y h2)
theorem P2{ops:Array Oper}{E:Prop}(hgd:o.guard=none)(s x:Operand)(ho:o.op=.call {callee:=.builtin .append,args:=#[s,x],argTypes:=#[t,t]})(hk:Kin P t e c b)(hc:∀x,(f x).length=c)(h1:∀x,∀u∈f x,u.oneCell'=true)
  (hs:a.eval s=.slice ao n cap) (hT:∃y,w=plus T y) (hown:Own e c f T w ao n cap l) (hx:a.eval x=.slice ao2 m c2) (hl:Lay f w ao2 m l2) (hm:n+m≤100000) (hb:b≤100000)
  (h:∀ao' cap' y,Own e c f T (plus T y) ao' (n+m) cap' (l++l2)→K (a.put o.dst (.slice ao' (n+m) cap')) (plus T y)):
  if Region.wanted o (yielded ops a.tmps)=true then Oper.wp P o a w K Q else E:=by
 have hw:Region.wanted o (yielded ops a.tmps)=true:=by simp[Region.wanted,hgd]
 rw[if_pos hw];exact U6 s x ho hk hc h1 hs hT hown hx hl hm hb h
end
end
section
def up (a b:Int):Int:= -((-a) / b)
def chk (l h:Int):Int:=if -1099511627776≤l∧h≤1099511627776∧l≤h then 0 else 8
def rng (l h:Int):Int × Int × Int:=if chk l h=0 then(l,h,0)else(0,0,20)
def add (a b c d:Int):Int × Int × Int:=if chk a b=0 then if chk c d=0 then rng (a+c) (b+d)else(0,0,8)else(0,0,8)
def aB6 (a b k:Int):Int × Int × Int:=if chk a b=0 then if -1048576≤k∧k≤1048576 then rng (min (k*a) (k*b)) (max (k*a) (k*b))else(0,0,2)else(0,0,8)
def quo (a b k:Int):Int × Int × Int:=if chk a b=0 then if 1≤k∧k≤1099511627776 then(a / k,b / k,0)else(0,0,2)else(0,0,8)
def aD8 (a b c d:Int):Int × Int × Int:=if chk a b=0 then if chk c d=0 then(min a c,max b d,0)else(0,0,8)else(0,0,8)
def aD6 (l h:Int):Bool:=chk l h==0
def inB (l h n:Int):Bool:=decide (l≤n∧n≤h)
end
section
structure V3 where
 x:Int
 y:Int
 z:Int
structure M9 where
 a:V3
 b:V3
 c:V3
structure Mt where
 m:M9
 t:V3
def I7 (n l:Int):Bool:=decide (-l≤n∧n≤l)
def Q8 (v:V3) (l:Int):Bool:=I7 v.x l&&I7 v.y l&&I7 v.z l
def Zp (m:M9) (l:Int):Bool:=Q8 m.a l&&Q8 m.b l&&Q8 m.c l
theorem a5y{n l:Int}(h1: -l≤n)(h2:n≤l):I7 n l=true:=by simp[I7,h1,h2]
theorem a3z{n l:Int}(h1:n< -l):I7 n l=false:=by simp[I7];omega
theorem a2t{n l:Int}(h1:l<n):I7 n l=false:=by simp[I7];omega
theorem ac6(n l:Int):(-l≤n∧n≤l∧I7 n l=true)∨(n< -l∧I7 n l=false)∨(-l≤n∧l<n∧I7 n l=false):=by
 by_cases h1: -l≤n
 ·by_cases h2:n≤l
  ·exact .inl ⟨h1,h2,a5y h1 h2⟩
  ·exact .inr (.inr ⟨h1,om0,a2t om0⟩)
 ·exact .inr (.inl ⟨om0,a3z om0⟩)
def dot (r v:V3):Int:=r.x*v.x+r.y*v.y+r.z*v.z
def a32 (r v:V3):Int:=dot r v / 256
def a7s (m:M9) (v:V3):V3:=⟨a32 m.a v,a32 m.b v,a32 m.c v⟩
def a9r (a b:V3):V3:=⟨a.x+b.x,a.y+b.y,a.z+b.z⟩
def a7R (m:Mt) (v:V3):V3:=a9r (a7s m.m v) m.t
def a1W (m:M9):M9:=⟨⟨m.a.x,m.b.x,m.c.x⟩,⟨m.a.y,m.b.y,m.c.y⟩,⟨m.a.z,m.b.z,m.c.z⟩⟩
def av1 (r:V3) (m:M9):V3:=⟨a32 r m.a,a32 r m.b,a32 r m.c⟩
def a8h (a b:M9):M9:=⟨av1 a.a (a1W b),av1 a.b (a1W b),av1 a.c (a1W b)⟩
def ar4 (m:Mt):Bool:=Zp m.m 1024&&Q8 m.t 4096
def a8c (v:V3):Int:=if Q8 v 4096=true then 0 else 20
def a8x (m:Mt):Int:=if ar4 m=true then 0 else 20
def aC3:Mt:=⟨⟨⟨256,0,0⟩,⟨0,256,0⟩,⟨0,0,256⟩⟩,⟨0,0,0⟩⟩
def zl:V3:=⟨0,0,0⟩
def L6:Mt:=⟨⟨zl,zl,zl⟩,zl⟩
def a9Y (m:Mt) (v:V3):V3 × Int:=
 if ar4 m=true then if Q8 v 4096=true then if Q8 (a7R m v) 4096=true then(a7R m v,0)else(zl,20)else(zl,20)else(zl,20)
def aD3 (m:M9) (v:V3):V3 × Int:=
 if Zp m 1024=true then if Q8 v 32768=true then(a7s m v,0)else(zl,2)else(zl,2)
def a97 (a b:Mt):Mt:=⟨a8h a.m b.m,a7R a b.t⟩
def mul (a b:Mt):Mt × Int:=
 if ar4 a=true then if ar4 b=true then if ar4 (a97 a b)=true then(a97 a b,0)else(L6,20)else(L6,20)else(L6,20)
end
section
open Go.RowKit
def fI (n:Int):List Value:=[.int .i64 n]
def fV (v:V3):List Value:=[.int .i64 v.x,.int .i64 v.y,.int .i64 v.z]
def f2 (p:Int × Int):List Value:=[.int .i64 p.1,.int .i64 p.2]
theorem a8K:∀x,(fI x).length=1:=fun _=>rfl
theorem a1x:∀x,(fV x).length=3:=fun _=>rfl
theorem Q1:∀x,(f2 x).length=2:=fun _=>rfl
theorem a8Y:∀x,∀u∈fI x,u.oneCell'=true:=by intro x u hu;simp only[fI,List.mem_cons,List.not_mem_nil,or_false]at hu;subst hu;rfl
theorem a4o:∀x,∀u∈fV x,u.oneCell'=true:=by intro x u hu;simp only[fV,List.mem_cons,List.not_mem_nil,or_false]at hu;rcases hu with rfl|rfl|rfl<;>rfl
theorem ZV:∀x,∀u∈f2 x,u.oneCell'=true:=by intro x u hu;simp only[f2,List.mem_cons,List.not_mem_nil,or_false]at hu;rcases hu with rfl|rfl<;>rfl
section
variable {w:World} {g off n k:Nat}
theorem Qh{l:List Int}(hl:l.length=n)(h:∀j u,(l.flatMap fI)[j]?=some u→w.cell? ⟨g,off+j,none⟩=some u)(hk:k<n):w.cell? ⟨g,off+k,none⟩=some (.int .i64 (nth 0 l k)):=by
 have:=A6 (d:=0) hl a8K h k 0 (.int .i64 (nth 0 l k)) hk dc0 rfl;rwa[Nat.mul_one,Nat.add_zero]at this
theorem a5H{l:List V3}(hl:l.length=n)(h:∀j u,(l.flatMap fV)[j]?=some u→w.cell? ⟨g,off+j,none⟩=some u)(hk:k<n):
  w.cell? ⟨g,off+k*3,none⟩=some (.int .i64 (nth zl l k).x)∧w.cell? ⟨g,off+k*3+1,none⟩=some (.int .i64 (nth zl l k).y)∧w.cell? ⟨g,off+k*3+2,none⟩=some (.int .i64 (nth zl l k).z):=by
 have h0:=A6 (d:=zl) hl a1x h k 0 _ hk dc0 rfl;have h1:=A6 (d:=zl) hl a1x h k 1 _ hk dc0 rfl;have h2:=A6 (d:=zl) hl a1x h k 2 _ hk dc0 rfl;rw[Nat.add_zero]at h0;rw[←Nat.add_assoc]at h1 h2;exact⟨h0,h1,h2⟩
theorem Y4{l:List (Int × Int)}(hl:l.length=n)(h:∀j u,(l.flatMap f2)[j]?=some u→w.cell? ⟨g,off+j,none⟩=some u)(hk:k<n):
  w.cell? ⟨g,off+k*2,none⟩=some (.int .i64 (nth (0,0) l k).1)∧w.cell? ⟨g,off+k*2+1,none⟩=some (.int .i64 (nth (0,0) l k).2):=by
 have h0:=A6 (d:=(0,0)) hl Q1 h k 0 _ hk dc0 rfl;have h1:=A6 (d:=(0,0)) hl Q1 h k 1 _ hk dc0 rfl;rw[Nat.add_zero]at h0;rw[←Nat.add_assoc]at h1;exact⟨h0,h1⟩
end
structure Pr where
 kind:Int
 ix:List Int
def R4 (ix:List Int) (k:Nat):V3:=⟨nth 0 ix (3*k),nth 0 ix (3*k+1),nth 0 ix (3*k+2)⟩
def L4 (ix:List Int) (k:Nat):V3:=if k % 2=1 then⟨nth 0 ix (k+1),nth 0 ix k,nth 0 ix (k+2)⟩else⟨nth 0 ix k,nth 0 ix (k+1),nth 0 ix (k+2)⟩
def a29 (ix:List Int) (k:Nat):V3:=⟨nth 0 ix 0,nth 0 ix (k+1),nth 0 ix (k+2)⟩
def J1 (g:Nat→V3) (k:Nat):List V3:=(List.range k).map g
theorem J8(g:Nat→V3)(k:Nat):J1 g k++[g k]=J1 g (k+1):=by simp[J1,List.range_succ]
def P8 (p:Pr):List V3:=if p.kind=1 then J1 (L4 p.ix) (p.ix.length - 2)else if p.kind=2 then J1 (a29 p.ix) (p.ix.length - 2)else J1 (R4 p.ix) (p.ix.length / 3)
def M2 (kind:Int) (n:Nat):Bool:=if kind=0 then n % 3==0 else n==0||decide (3≤n)
def N6 (p:Pr):Int:=if 2<p.kind then 2 else if 200<p.ix.length then 4 else if M2 p.kind p.ix.length=true then 0 else 40
def ak2 (p:Pr):List V3:=if N6 p=0 then P8 p else[]
theorem ae0{kind:Int}{ix:List Int}(h:2<kind):N6 ⟨kind,ix⟩=2:=if_pos h
theorem ag1{kind:Int}{ix:List Int}(h:¬2<kind)(h2:200<ix.length):N6 ⟨kind,ix⟩=4:=(if_neg h).trans (if_pos h2)
theorem ao8{kind:Int}{ix:List Int}(h:¬2<kind)(h2:¬200<ix.length)(h3:M2 kind ix.length=false):N6 ⟨kind,ix⟩=40:=(if_neg h).trans ((if_neg h2).trans (if_neg (by simp[h3])))
theorem at9{kind:Int}{ix:List Int}(h:¬2<kind)(h2:¬200<ix.length)(h3:M2 kind ix.length=true):N6 ⟨kind,ix⟩=0:=(if_neg h).trans ((if_neg h2).trans (if_pos h3))
theorem a2N(p:Pr):N6 p=2∨N6 p=4∨N6 p=40∨N6 p=0:=by
 unfold N6;split
 ·exact .inl rfl
 ·split
  ·exact .inr (.inl rfl)
  ·split
   ·exact .inr (.inr (.inr rfl))
   ·exact .inr (.inr (.inl rfl))
theorem I8{p:Pr}(h:N6 p≠0):ak2 p=[]:=if_neg h
theorem H4{p:Pr}(h:N6 p=0):ak2 p=P8 p:=if_pos h
theorem a4Y(p:Pr):(P8 p).length≤p.ix.length:=by
 unfold P8;split
 ·simp[J1]
 ·split
  ·simp[J1]
  ·simp[J1];omega
def a9W {α:Type} (f:α→List Value) (w:World) (l:List α) (e:Ending) (w':World):Prop:=∃ao m cap,e=.returned (.slice ao m cap)∧(∃y,w'=plus w y)∧Lay f w' ao m l
def a8s {α:Type} (f:α→List Value) (w:World) (l:List α) (x:Value) (e:Ending) (w':World):Prop:=∃ao m cap,e=.returned (.tuple #[.slice ao m cap,x])∧(∃y,w'=plus w y)∧Lay f w' ao m l
def a7z {α:Type} (t:TypeId) (c:Nat) (f:α→List Value) (w:World) (l:List α) (e:Ending) (w':World):Prop:=∃ao m cap,e=.returned (.slice ao m cap)∧(∃y,w'=plus w y)∧Own t c f w w' ao m cap l
section
variable {α:Type} {eq:α→α→Bool} {d:α} {l l2:List α} {p:α→Bool}
def V4 (eq:α→α→Bool) (d:α) (l l2:List α):Bool:=l.length==l2.length&&(List.range l.length).all (fun k=>eq (nth d l k) (nth d l2 k))
theorem L2(h:l.length≠l2.length):V4 eq d l l2=false:=by simp[V4,h]
theorem D7{k:Nat}(hk:k<l.length)(h:eq (nth d l k) (nth d l2 k)=false):V4 eq d l l2=false:=by
 cases h2:V4 eq d l l2
 ·rfl
 ·simp only[V4,Bool.and_eq_true,List.all_eq_true,List.mem_range]at h2;rw[h2.2 k hk]at h;cases h
theorem L0(hl:l.length=l2.length)(h:∀k,k<l.length→eq (nth d l k) (nth d l2 k)=true):V4 eq d l l2=true:=by
 simp only[V4,Bool.and_eq_true,List.all_eq_true,List.mem_range,beq_iff_eq];exact⟨hl,h⟩
theorem G2(h:∀a,eq a a=true)(l:List α):V4 eq d l l=true:=L0 rfl fun _ _=>h _
theorem C1{k:Nat}(hk:k<l.length)(h:p (nth d l k)=false):l.all p=false:=by
 cases h2:l.all p
 ·rfl
 ·rw[List.all_eq_true.1 h2 _ (F3 hk)]at h;cases h
theorem K5(h:∀k,k<l.length→p (nth d l k)=true):l.all p=true:=by
 rw[List.all_eq_true];intro x hx;obtain⟨k,hk,rfl⟩:=List.getElem_of_mem hx;have:=h k hk;rwa[Qv hk]at this
end
def eqI (a b:Int):Bool:=decide (a=b)
def eqV (a b:V3):Bool:=decide (a.x=b.x∧a.y=b.y∧a.z=b.z)
def eq2 (a b:Int × Int):Bool:=decide (a.1=b.1∧a.2=b.2)
theorem aw0(a:Int):eqI a a=true:=by simp[eqI]
theorem a5S(a:V3):eqV a a=true:=by simp[eqV]
theorem a2E(a:Int × Int):eq2 a a=true:=by simp[eq2]
def W5 (l l2:List Int):Bool:=V4 eqI 0 l l2
def a2e (l l2:List V3):Bool:=V4 eqV zl l l2
def ZQ (l l2:List (Int × Int)):Bool:=V4 eq2 (0,0) l l2
def inR (lo hi n:Int):Bool:=decide (lo≤n∧n≤hi)
end
section
theorem a0N{w:World}{a:Addr}{v:Value}(h:w.cell? a=some v):a=⟨a.block,a.off,none⟩∧a.block<w.heap.size:=by
 unfold World.cell? at h;split at h
 ·rename_i c e f hb;split at h
  ·cases h
  ·rename_i hs;refine⟨?_,(Array.getElem?_eq_some_iff.1 hb).1⟩;obtain⟨b,o,s⟩:=a;cases s with
   |none=>rfl
   |some _=>simp at hs
 ·cases h
theorem ac5(g o j:Nat):(⟨g,o,none⟩:Addr).add j=⟨g,o+j,none⟩:=by
 unfold Addr.add;split<;>simp_all
def QZ (W:World) (ao:Option Addr) (n c:Nat) (Q:List Value→Prop):Prop:=
 n=0∨∃g off,ao=some ⟨g,off,none⟩∧g<W.heap.size∧∀i,i<n→∃cs:List Value,cs.length=c∧(∀j,j<c→W.cell? ⟨g,off+(i*c+j),none⟩=cs[j]?)∧Q cs
section
variable {H:Type} {enc:TypeId × Value→H} {P:Program} {W:World} {base:Nat} {spare:Nat→Bool} {held:Bool}
theorem S4{c fuel:Nat}{t e:TypeId}{v:Value}{x:DataW H × List MemPlace}(ht:P.underlying t=some (.slice e))(hc:P.cellsOf e=c)(hc0:0<c)
  (h:DataW.trod enc P W base spare held fuel t [v]=some x):
  ∃(ao:Option Addr) (n cap:Nat),v=.slice ao n cap∧n≤9223372036854775807∧(ao=none→n=0∧cap=0)∧QZ W ao n c (fun cs=>∃m y,DataW.trod enc P W base spare held m e cs=some y):=by
 rcases Go.Deep.open_slice ht h with⟨h0,_⟩|⟨a,len,cap,m,n,D,Pl,h0,hb,hl,hm,hmm,_,hall⟩
 ·obtain rfl:v=.slice none 0 0:=by simpa using h0
  exact⟨none,0,0,rfl,dc0,fun _=>⟨rfl,rfl⟩,.inl rfl⟩
 ·obtain rfl:v=.slice (some a) len cap:=by simpa using h0
  refine⟨some a,len,cap,rfl,by unfold maxLen at hm;omega,(fun h=>by cases h),?_⟩;by_cases hz:len=0
  ·exact .inl hz
  right;have hlm:len≤m:=by rw[hmm];split<;>omega
  obtain⟨cs0,hc1,_⟩:=hall 0 om0;rw[hc]at hc1;obtain⟨_,hl1,hcell⟩:=World.cells?_some hc1;have hcell0:=hcell 0 hc0;rw[List.getElem?_eq_getElem om0]at hcell0;simp only[Nat.zero_mul,Addr.add,if_true]at hcell0;obtain⟨ea,hlt⟩:=a0N hcell0;refine⟨a.block,a.off,by rw[←ea],hlt,fun i hi=>?_⟩;obtain⟨cs,hc2,htr⟩:=hall i om0;rw[hc]at hc2;obtain⟨_,hl2,hcell2⟩:=World.cells?_some hc2;refine⟨cs,hl2,fun j hj=>?_,n,_,htr⟩;have hcj:=hcell2 j hj;rw[ea,ac5,ac5,Nat.add_assoc]at hcj;exact hcj
end
theorem Qm{α:Type}{f:α→List Value}{W:World}{ao:Option Addr}{n c:Nat}{Q:List Value→Prop}{R:α→Prop}(d:α)(hc0:0<c)(hc:∀x,(f x).length=c)(h:QZ W ao n c Q)(hQ:∀cs,cs.length=c→Q cs→∃x:α,cs=f x∧R x):
  ∃l:List α,Lay f W ao n l∧∀k,k<n→R (nth d l k):=by
 rcases h with h|⟨g,off,e,hg,h⟩
 ·subst h;exact⟨[],Lay.nil,fun k hk=>om0⟩
 have h':∀i,∃x:α,i<n→(∀j,j<c→W.cell? ⟨g,off+(i*c+j),none⟩=(f x)[j]?)∧R x:=by
  intro i;by_cases hi:i<n
  ·obtain⟨cs,hl,hcell,hq⟩:=h i hi;obtain⟨x,rfl,hr⟩:=hQ cs hl hq;exact⟨x,fun _=>⟨hcell,hr⟩⟩
  ·exact⟨d,fun h=>absurd h hi⟩
 refine⟨(List.range n).map fun i=>Classical.choose (h' i),⟨by simp,.inr ⟨g,off,e,hg,fun j u hu=>?_⟩⟩,fun k hk=>?_⟩
 ·have hlen:((List.range n).map fun i=>Classical.choose (h' i)).length=n:=by simp
  have hj:j<n*c:=by
   have:=(List.getElem?_eq_some_iff.1 hu).1;rwa[zE hc,hlen]at this
  have hi:j / c<n:=(Nat.div_lt_iff_lt_mul hc0).2 hj;have e1:j / c*c+j % c=j:=by rw[Nat.mul_comm];exact Nat.div_add_mod j c
  rw[←e1,ad7 hc _ (j / c) (by rw[hlen];exact hi) (j % c) (Nat.mod_lt _ hc0),List.getElem_map,List.getElem_range]at hu;have:=(Classical.choose_spec (h' (j / c)) hi).1 (j % c) (Nat.mod_lt _ hc0);rw[e1]at this;rw[this];exact hu
 ·rw[Q0 hk];exact(Classical.choose_spec (h' k) hk).2
section
variable {H:Type} {enc:TypeId × Value→H} {P:Program} {W:World} {base:Nat} {spare:Nat→Bool} {held:Bool} {ao:Option Addr} {n:Nat} {e:TypeId}
theorem a2Q(hf:ak0 P 4 e=true)(h:QZ W ao n 1 (fun cs=>∃m y,DataW.trod enc P W base spare held m e cs=some y)):∃l:List Int,Lay fI W ao n l:=by
 obtain⟨l,hl,_⟩:=Qm (f:=fI) (R:=fun _=>True) 0 dc0 a8K h (by
  rintro cs hl ⟨m,y,hy⟩
  match cs,hl,hy with
  |[a],_,hy=>
   obtain⟨z,rfl,_⟩:=J7 4 e m _ _ hf hy a (by simp);exact⟨z,rfl,trivial⟩)
 exact⟨l,hl⟩
theorem a6X(hf:ak0 P 4 e=true)(h:QZ W ao n 3 (fun cs=>∃m y,DataW.trod enc P W base spare held m e cs=some y)):∃l:List V3,Lay fV W ao n l:=by
 obtain⟨l,hl,_⟩:=Qm (f:=fV) (R:=fun _=>True) zl dc0 a1x h (by
  rintro cs hl ⟨m,y,hy⟩
  match cs,hl,hy with
  |[a,b,c],_,hy=>
   obtain⟨z,rfl,_⟩:=J7 4 e m _ _ hf hy a (by simp);obtain⟨z2,rfl,_⟩:=J7 4 e m _ _ hf hy b (by simp);obtain⟨z3,rfl,_⟩:=J7 4 e m _ _ hf hy c (by simp);exact⟨⟨z,z2,z3⟩,rfl,trivial⟩)
 exact⟨l,hl⟩
theorem a2A(hf:ak0 P 4 e=true)(h:QZ W ao n 2 (fun cs=>∃m y,DataW.trod enc P W base spare held m e cs=some y)):∃l:List (Int × Int),Lay f2 W ao n l:=by
 obtain⟨l,hl,_⟩:=Qm (f:=f2) (R:=fun _=>True) (0,0) dc0 Q1 h (by
  rintro cs hl ⟨m,y,hy⟩
  match cs,hl,hy with
  |[a,b],_,hy=>
   obtain⟨z,rfl,_⟩:=J7 4 e m _ _ hf hy a (by simp);obtain⟨z2,rfl,_⟩:=J7 4 e m _ _ hf hy b (by simp);exact⟨(z,z2),rfl,trivial⟩)
 exact⟨l,hl⟩
end
end
section
def T0 (P:Program):Nat→TypeId→Nat→Nat
 |0,_,_=>3
 |k+1,t,j=>match P.underlying t with
  |some (.int .i64)=>0
  |some (.int .u8)=>1
  |some .bool=>2
  |some (.struct fs)=>match fs.toList.find? (fun f=>decide (f.offset≤j)&&decide (j<f.offset+P.cellsOf f.type))with
   |some f=>T0 P k f.type (j - f.offset)
   |none=>3
  |some (.array n e)=>match (List.range n).find? (fun i=>decide (i*P.cellsOf e≤j)&&decide (j<i*P.cellsOf e+P.cellsOf e))with
   |some i=>T0 P k e (j - i*P.cellsOf e)
   |none=>3
  |_=>3
def a8B:Nat→Value→Prop
 |0,c=>∃n:Int,c=.int .i64 n
 |1,c=>∃n:Int,c=.int .u8 n∧0≤n∧n≤255
 |2,c=>∃b:Bool,c=.bool b
 |_,_=>True
section
variable {H:Type} {enc:TypeId × Value→H} {P:Program} {W:World} {base:Nat} {spare:Nat→Bool} {held:Bool}
theorem a4S{cs:List Value}{j o s:Nat}{c:Value}(hc:cs[j]?=some c)(h1:o≤j)(h2:j<o+s):((cs.drop o).take s)[j - o]?=some c:=by
 rw[List.getElem?_take,if_pos om0,List.getElem?_drop,show o+(j - o)=j by omega];exact hc
theorem ai3:∀(k:Nat) (t:TypeId) (fuel:Nat) (cs:List Value) (x:DataW H × List MemPlace),DataW.trod enc P W base spare held fuel t cs=some x→
  ∀j c,cs[j]?=some c→a8B (T0 P k t j) c
 |0,_,_,_,_,_=>fun _ _ _=>trivial
 |k+1,t,fuel,cs,x,h=>by
  intro j c hj;unfold T0;split
  ·rename_i hu;obtain⟨n,e,_,hw⟩:=DataW.trod_int hu h;subst e;obtain⟨rfl,rfl⟩:j=0∧c=.int .i64 n:=by
    cases j with
    |zero=>simpa [eq_comm]using hj
    |succ j=>simp at hj
   exact⟨n,rfl⟩
  ·rename_i hu;obtain⟨n,e,_,hw⟩:=DataW.trod_int hu h;subst e;obtain⟨rfl,rfl⟩:j=0∧c=.int .u8 n:=by
    cases j with
    |zero=>simpa [eq_comm]using hj
    |succ j=>simp at hj
   exact⟨n,rfl,(bounds_u8 hw).1,(bounds_u8 hw).2⟩
  ·rename_i hu;obtain⟨b,e,_⟩:=DataW.trod_bool hu h;subst e;obtain⟨rfl,rfl⟩:j=0∧c=.bool b:=by
    cases j with
    |zero=>simpa [eq_comm]using hj
    |succ j=>simp at hj
   exact⟨b,rfl⟩
  ·rename_i fs hu;obtain⟨xs,m,rfl,_,hl,hxl,hall⟩:=DataW.trod_struct hu h;split
   ·rename_i f hfd;have hfm:=List.mem_of_find?_eq_some hfd;have hin:=List.find?_some hfd;simp only[Bool.and_eq_true,decide_eq_true_eq]at hin;obtain⟨i,hi⟩:=List.getElem?_of_mem hfm;have hfi:fs[i]?=some f:=by simpa using hi
    have hil:i<fs.size:=(Array.getElem?_eq_some_iff.1 hfi).1;have hy:=hall i f hfi;rw[List.getElem?_eq_getElem om0]at hy;exact ai3 k f.type m _ _ hy _ c (a4S hj hin.1 hin.2)
   ·trivial
  ·rename_i n e hu;obtain⟨xs,m,rfl,_,hl,hxl,hall⟩:=DataW.trod_array hu h;split
   ·rename_i i hfd;have hi:=List.mem_range.1 (List.mem_of_find?_eq_some hfd);have hin:=List.find?_some hfd;simp only[Bool.and_eq_true,decide_eq_true_eq]at hin;have hy:=hall i hi;rw[List.getElem?_eq_getElem om0]at hy;exact ai3 k e m _ _ hy _ c (a4S hj hin.1 hin.2)
   ·trivial
  ·trivial
theorem a6F{W:World}{r:Reach}{b0:Nat}{t:TypeId}{v:Value}{d:DataW H}{p:List MemPlace}(ha:a93 P t=true)
  (hv:Value.okWide P W r b0 t v) (h:DataW.Trod enc P W base spare held t v d p):
  ∃(cs:List Value) (fuel:Nat) (x:DataW H × List MemPlace),v=.agg cs.toArray∧cs.length=P.cellsOf t∧DataW.trod enc P W base spare held fuel t cs=some x:=by
 obtain⟨cs,rfl,hsz⟩:∃cs,v=.agg cs∧cs.size=P.cellsOf t:=by
  unfold Value.okWide at hv;unfold a93 at ha;split at ha
  ·rename_i hu;simp only[hu]at hv;obtain⟨cs,h1,h2,_⟩:=hv;exact⟨cs,h1,h2⟩
  ·rename_i hu;simp only[hu]at hv;obtain⟨cs,h1,h2,_⟩:=hv;exact⟨cs,h1,h2⟩
  ·cases ha
 obtain⟨fuel,hx⟩:=h;exact⟨cs.toList,fuel,_,by simp,by simpa using hsz,by simpa [Value.cells]using hx⟩
end
end
section
open Go.RowKit
theorem zC{w:World}{g i:Nat}{v:Value}(h:w.cell? ⟨g,i,none⟩=some v):g<w.heap.size:=by
 by_cases hg:g<w.heap.size
 ·exact hg
 ·rw[ak6 _ _ _ om0]at h;cases h
theorem qf{w w':World}{g i:Nat}{v:Value}(hw:∃y,w'=plus w y)(h:w.cell? ⟨g,i,none⟩=some v):w'.cell? ⟨g,i,none⟩=some v:=by
 obtain⟨y,rfl⟩:=hw;rw[ap5 _ _ _ _ (zC h)];exact h
theorem qu{w w':World}(hw:∃y,w'=plus w y):w.heap.size≤w'.heap.size:=by
 obtain⟨y,rfl⟩:=hw;rw[qn];omega
theorem i9{w w1 w2:World}(h1:∃y,w1=plus w y)(h2:∃y,w2=plus w1 y):∃y,w2=plus w y:=by
 obtain⟨y,rfl⟩:=h2;exact zt h1
theorem ZM{w w1 w2:World}(h2:∃y,w2=plus w1 y)(h1:∃y,w1=plus w y):∃y,w2=plus w y:=i9 h1 h2
theorem B5{w w':World}(h:∃y,w'=plus w y):Below w.heap.size w w':=by
 obtain⟨y,rfl⟩:=h;exact A3 w y
structure PH where
 kind:Int
 ao:Option Addr
 n:Nat
 cap:Nat
def fP (h:PH):List Value:=[.int .u8 h.kind,.slice h.ao h.n h.cap]
theorem a8u:∀x,(fP x).length=2:=fun _=>rfl
theorem a9I:∀x,∀u∈fP x,u.oneCell'=true:=by intro x u hu;simp only[fP,List.mem_cons,List.not_mem_nil,or_false]at hu;rcases hu with rfl|rfl<;>rfl
def dPH:PH:=⟨0,none,0,0⟩
def dPr:Pr:=⟨0,[]⟩
theorem a1o{w:World}{g off n k:Nat}{l:List PH}(hl:l.length=n)(h:∀j u,(l.flatMap fP)[j]?=some u→w.cell? ⟨g,off+j,none⟩=some u)(hk:k<n):
  w.cell? ⟨g,off+k*2,none⟩=some (.int .u8 (nth dPH l k).kind)∧w.cell? ⟨g,off+k*2+1,none⟩=some (.slice (nth dPH l k).ao (nth dPH l k).n (nth dPH l k).cap):=by
 have h0:=A6 (d:=dPH) hl a8u h k 0 _ hk dc0 rfl;have h1:=A6 (d:=dPH) hl a8u h k 1 _ hk dc0 rfl;rw[Nat.add_zero]at h0;rw[←Nat.add_assoc]at h1;exact⟨h0,h1⟩
structure an7 (w:World) (h:PH) (p:Pr):Prop where
 kind:h.kind=p.kind
 lo:0≤p.kind
 hi:p.kind≤255
 le:h.n≤9223372036854775807
 nil:h.ao=none→h.n=0∧h.cap=0
 lay:Lay fI w h.ao h.n p.ix
structure M3 (w:World) (hs:List PH) (ps:List Pr):Prop where
 len:hs.length=ps.length
 one:∀k,k<hs.length→an7 w (nth dPH hs k) (nth dPr ps k)
theorem an7.ex{w w':World}{h:PH}{p:Pr}(a:an7 w h p)(hw:∃x,w'=plus w x):an7 w' h p:=⟨a.kind,a.lo,a.hi,a.le,a.nil,a.lay.ex hw⟩
theorem M3.ex{w w':World}{hs:List PH}{ps:List Pr}(a:M3 w hs ps)(hw:∃x,w'=plus w x):M3 w' hs ps:=⟨a.len,fun k hk=>(a.one k hk).ex hw⟩
structure Ms where
 vs:List V3
 uv:List (Int × Int)
 ps:List Pr
structure MH where
 va:Option Addr
 vn:Nat
 vc:Nat
 ua:Option Addr
 un:Nat
 uc:Nat
 pa:Option Addr
 pn:Nat
 pc:Nat
def fM (h:MH):Value:=.agg #[.slice h.va h.vn h.vc,.slice h.ua h.un h.uc,.slice h.pa h.pn h.pc]
structure I6 (w:World) (h:MH) (hs:List PH) (m:Ms):Prop where
 vle:h.vn≤9223372036854775807
 ule:h.un≤9223372036854775807
 ple:h.pn≤9223372036854775807
 vnil:h.va=none→h.vn=0∧h.vc=0
 unil:h.ua=none→h.un=0∧h.uc=0
 pnil:h.pa=none→h.pn=0∧h.pc=0
 vl:Lay fV w h.va h.vn m.vs
 ul:Lay f2 w h.ua h.un m.uv
 pl:Lay fP w h.pa h.pn hs
 pp:M3 w hs m.ps
theorem I6.ex{w w':World}{h:MH}{hs:List PH}{m:Ms}(a:I6 w h hs m)(hw:∃x,w'=plus w x):I6 w' h hs m:=
 ⟨a.vle,a.ule,a.ple,a.vnil,a.unil,a.pnil,a.vl.ex hw,a.ul.ex hw,a.pl.ex hw,a.pp.ex hw⟩
end
end Go.Proofs.YtcekcihijdipoaaGreat
