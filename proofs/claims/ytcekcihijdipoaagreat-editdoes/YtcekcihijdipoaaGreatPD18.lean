/- A pack of texts: EdSame, StOpen, EdNm, EdNm2, Rel4, Turn, BuildOne, EdNm4, EdLf, St2. -/
import Derived.Test.YtcekcihijdipoaaGreatPD17
namespace Go.Proofs.YtcekcihijdipoaaGreat
set_option maxRecDepth 100000
set_option maxHeartbeats 16000000
open Go.RowKit Go.ChangeShapes Go.WideShapes Go.ChangeAt
set_option linter.unusedSimpArgs false
set_option linter.unusedVariables false
attribute [local go_sem] qn qZ A2 zg zz zA t5 qJ zf qO qD t6
section
end
section
def fSy (s:Sy):List Value:=[.int .u8 s.s0,.int .u8 s.s1,.int .u8 s.s2,.int .u8 s.s3,.int .u8 s.s4,.int .u8 s.l.r,.int .u8 s.l.g,.int .u8 s.l.b,.int .u8 s.l.a,.int .i64 s.l.tx,.int .u8 s.l.cu,.int .i64 s.l.bi,.bool s.l.bl,.int .i64 s.l.bn]
section
variable {H:Type} {enc:TypeId × Value→H} {P:Program} {W:World} {base:Nat} {spare:Nat→Bool} {held:Bool} {t:TypeId}
end
end
section
def Zm (f:NF):NF:=⟨f.kind,if f.kind=2 then f.m else L6,if f.kind=3 then f.on else 0,if f.kind=4 then f.cen else zl,if f.kind=5 then f.mesh else 0,f.sty⟩
def ao4 (n:Nd):Nd:=⟨Zm n.f,if n.f.kind=4 then n.far else[]⟩
def H8 (h:NH):NH:=if h.f.kind=4 then⟨Zm h.f,h.ao,h.n,h.cap⟩else⟨Zm h.f,none,0,0⟩
def syL (y:Sy):List Value:=[.int .u8 y.s0,.int .u8 y.s1,.int .u8 y.s2,.int .u8 y.s3,.int .u8 y.s4,.int .u8 y.l.r,.int .u8 y.l.g,.int .u8 y.l.b,.int .u8 y.l.a,.int .i64 y.l.tx,.int .u8 y.l.cu,.int .i64 y.l.bi,.bool y.l.bl,.int .i64 y.l.bn]
def mtL (m:Mt):List Value:=[.int .i64 m.m.a.x,.int .i64 m.m.a.y,.int .i64 m.m.a.z,.int .i64 m.m.b.x,.int .i64 m.m.b.y,.int .i64 m.m.b.z,.int .i64 m.m.c.x,.int .i64 m.m.c.y,.int .i64 m.m.c.z,.int .i64 m.t.x,.int .i64 m.t.y,.int .i64 m.t.z]
def v3L (v:V3):List Value:=[.int .i64 v.x,.int .i64 v.y,.int .i64 v.z]
def S6 (k:Int) (y:Sy):NH:=⟨⟨k,L6,0,zl,0,y⟩,none,0,0⟩
theorem a3I{h:NH}{n:Nd}{w:World}(a:G0 w h n):G0 w (H8 h) (ao4 n):=by
 have hf:=a.f;unfold H8 ao4;rw[←hf];split
 ·exact⟨rfl,⟨a.b.kind |> (by rw[hf];exact ·),by unfold Zm;rw[hf];simp only;split;exact a.b.on;exact⟨dc0,dc0⟩,by rw[hf];exact a.b.sty⟩,a.le,a.cap,a.nil,a.lay⟩
 ·exact⟨rfl,⟨by rw[hf];exact a.b.kind,by unfold Zm;rw[hf];simp only;split;exact a.b.on;exact⟨dc0,dc0⟩,by rw[hf];exact a.b.sty⟩,by simp,by simp,fun _=>⟨rfl,rfl⟩,Lay.nil⟩
theorem Zv(h:NH):∀j v,(syL h.f.sty)[j]?=some v→(fN h)[19+j]?=some v:=by
 intro j v hv;rw[←List.getElem?_drop];exact hv
theorem ad9(h:NH):∀j v,(mtL h.f.m)[j]?=some v→(fN h)[1+j]?=some v:=by
 intro j v hv;have hj:j<12:=(List.getElem?_eq_some_iff.1 hv).1;have:((fN h).drop 1).take 12=mtL h.f.m:=rfl;rw[←this,List.getElem?_take,if_pos hj,List.getElem?_drop]at hv;exact hv
theorem ae8(h:NH):∀j v,(v3L h.f.cen)[j]?=some v→(fN h)[14+j]?=some v:=by
 intro j v hv;have hj:j<3:=(List.getElem?_eq_some_iff.1 hv).1;have:((fN h).drop 14).take 3=v3L h.f.cen:=rfl;rw[←this,List.getElem?_take,if_pos hj,List.getElem?_drop]at hv;exact hv
theorem a9f(y:Mt):∀u∈mtL y,u.oneCell'=true:=by
 intro u hu;simp only[mtL,List.mem_cons,List.not_mem_nil,or_false]at hu;rcases hu with rfl|rfl|rfl|rfl|rfl|rfl|rfl|rfl|rfl|rfl|rfl|rfl<;>rfl
theorem a9h(y:V3):∀u∈v3L y,u.oneCell'=true:=by
 intro u hu;simp only[v3L,List.mem_cons,List.not_mem_nil,or_false]at hu;rcases hu with rfl|rfl|rfl<;>rfl
theorem T9(k:Int)(y:Sy):Tryz.prog.built 56 [(0,.int .u8 k),(6,.agg (syL y).toArray)]=some (fN (S6 k y)).toArray:=kr0
end
section
theorem z8{P:Program}{ops:Array Oper}{rest:List Oper}{o:Oper}{a:Act}{w:World}{Q:Exit→Act→World→Prop}(hg:o.guard=none)(t:TypeId)(parts:Array (Nat × Operand))(ho:o.op=.build t parts)(cs:List Value)
  (hf:P.built t (parts.map fun(i,x)=>(i,a.eval x)).toList=some cs.toArray) (h:wpList P ops Q rest (a.put o.dst (.agg cs.toArray)) w):wpList P ops Q (o::rest) a w:=
 wpList_build hg t parts ho (by rw[hf];rfl) (by rw[hf];exact h)
theorem a6S(kd:Int)(h:NH)(hk:h.f.kind=kd)(n2:kd≠2)(n3:kd≠3)(n4:kd≠4)(n5:kd≠5)(w:World):Calls Tryz.prog 49 #[vN h] w fun e w'=>e=.returned (vN (H8 h))∧∃y,w'=plus w y:=by
 show Calls Tryz.prog 49 #[.agg (fN h).toArray] w fun e w'=>e=.returned (vN (H8 h))∧∃y,w'=plus w y
 rw[show H8 h=S6 kd h.f.sty by simp[H8,Zm,hk,n2,n3,n4,n5];rfl];have hsty:=Zv h;have hmt:=ad9 h;have hv3:=ae8 h;have hkind:=ZL h;have hfar:=ah1 h;have hon:(fN h)[13]?=some (.int .u16 h.f.on):=rfl;have hme:(fN h)[18]?=some (.int .i64 h.f.mesh):=rfl;rw[hk]at hkind;obtain⟨cs,hcs⟩:∃cs,fN h=cs:=⟨_,rfl⟩;rw[hcs]at hsty hmt hv3 hkind hfar hon hme ⊢;have hc:cs.length=33:=by rw[←hcs];rfl
 have h1:∀v∈cs,v.oneCell'=true:=by rw[←hcs];exact aa4 h
 obtain⟨b,hb⟩:∃b,w.heap.size=b:=⟨_,rfl⟩;clear hcs;have d2:(kd==2)=false:=by rw[beq_eq_false_iff_ne];exact n2
 have d3:(kd==3)=false:=by rw[beq_eq_false_iff_ne];exact n3
 have d4:(kd==4)=false:=by rw[beq_eq_false_iff_ne];exact n4
 have d5:(kd==5)=false:=by rw[beq_eq_false_iff_ne];exact n5
 go_enter Tryz.func49,Tryz.ntmps49;go_upto_region 1 with fail;refine qz (fun w'=>(∃y,w'=plus w y)∧w'.heap[b]?=some (.cells cs.toArray 56)∧(∃z:List Value,w'.heap[b+1]?=some (.cells z.toArray 56)∧z.length=33)∧w'.heap.size=b+2) ⟨sk9,hb▸qm (qc _ _),⟨_,by rw[←hb,←j8 w];exact qc _ _,rfl⟩,by rw[j8,j8,hb]⟩ ?_
 try simp only[hb]
 rintro w1 ⟨x1,k1,⟨z,k2,hz⟩,z1⟩;have p0:=k9 k1 hkind;go_upto_region 2 with(first|(refine qY rfl 54 _ rfl b 19 rfl (syL h.f.sty) _ (fun j v hv=>k9 k1 (hsty j v hv)) Tryz.underlying54 rfl kr0 ?_)|(refine z8 rfl 56 _ rfl (fN (S6 kd h.f.sty)) ?hf ?_;case hf=>simp only[List.map_toArray,List.map_cons,List.map_nil];exact T9 _ _)|(refine j6 rfl 56 _ _ rfl (b+2) (fN (S6 kd h.f.sty)) (by simp[go_sem,z1]) rfl _ _ (by rw[←z1];exact qc _ _) kr0 kr0 (aa4 _) ?_));refine qz (fun w'=>(∃y,w'=plus w1 y)∧w'.heap[b+2]?=some (.cells (fN (S6 kd h.f.sty)).toArray 56)∧w'.heap.size=b+3) ⟨ql sk9 om0,by rw[←z1];exact p9 (qc _ _),by rw[setRow_size,j8,z1]⟩ ?_;rintro w2 ⟨x2,k3,z2⟩;have q0:=qf x2 p0;go_upto_region 11 with fail;refine qz (fun w'=>(∃y,w'=plus w y)∧w'.heap[b+2]?=some (.cells (fN (S6 kd h.f.sty)).toArray 56)∧w'.heap[b+1]?=some (.cells z.toArray 56)) ⟨i9 x1 x2,k3,i7 x2 k2⟩ ?_;rintro w4 ⟨x4,k5,k6⟩;go_wp2_with (first|(refine wpList_load_row rfl 56 _ rfl (b+2) rfl _ _ _ _ k5 Tryz.underlying56 rfl kr0 ?_)|(refine j6 rfl 56 _ _ rfl (b+1) (fN (S6 kd h.f.sty)) rfl rfl _ _ k6 kr0 (by rw[ag0];simpa using hz) (aa4 _) ?_));exact bodyPost_ret (v:=vN (S6 kd h.f.sty)) (results_cell_row Tryz.results49 _ _ (b+1) 56 _ _ _ rfl (p9 k6) Tryz.underlying56 rfl kr0) rfl ⟨rfl,ql x4 om0⟩
theorem a5G(h:NH)(hk:h.f.kind=2)(w:World):Calls Tryz.prog 49 #[vN h] w fun e w'=>e=.returned (vN (H8 h))∧∃y,w'=plus w y:=by
 show Calls Tryz.prog 49 #[.agg (fN h).toArray] w fun e w'=>e=.returned (vN (H8 h))∧∃y,w'=plus w y
 rw[show H8 h=⟨⟨2,h.f.m,0,zl,0,h.f.sty⟩,none,0,0⟩by simp[H8,Zm,hk]];have hsty:=Zv h;have hmt:=ad9 h;have hv3:=ae8 h;have hkind:=ZL h;have hfar:=ah1 h;have hon:(fN h)[13]?=some (.int .u16 h.f.on):=rfl;have hme:(fN h)[18]?=some (.int .i64 h.f.mesh):=rfl;rw[hk]at hkind;obtain⟨cs,hcs⟩:∃cs,fN h=cs:=⟨_,rfl⟩;rw[hcs]at hsty hmt hv3 hkind hfar hon hme ⊢;have hc:cs.length=33:=by rw[←hcs];rfl
 have h1:∀v∈cs,v.oneCell'=true:=by rw[←hcs];exact aa4 h
 obtain⟨b,hb⟩:∃b,w.heap.size=b:=⟨_,rfl⟩;clear hcs;go_enter Tryz.func49,Tryz.ntmps49;go_upto_region 1 with fail;refine qz (fun w'=>(∃y,w'=plus w y)∧w'.heap[b]?=some (.cells cs.toArray 56)∧(∃z:List Value,w'.heap[b+1]?=some (.cells z.toArray 56)∧z.length=33)∧w'.heap.size=b+2) ⟨sk9,hb▸qm (qc _ _),⟨_,by rw[←hb,←j8 w];exact qc _ _,rfl⟩,by rw[j8,j8,hb]⟩ ?_
 try simp only[hb]
 rintro w1 ⟨x1,k1,⟨z,k2,hz⟩,z1⟩;have p0:=k9 k1 hkind;go_upto_region 2 with(first|(refine qY rfl 54 _ rfl b 19 rfl (syL h.f.sty) _ (fun j v hv=>k9 k1 (hsty j v hv)) Tryz.underlying54 rfl kr0 ?_)|(refine z8 rfl 56 _ rfl (fN (S6 2 h.f.sty)) ?hf ?_;case hf=>simp only[List.map_toArray,List.map_cons,List.map_nil];exact T9 _ _)|(refine j6 rfl 56 _ _ rfl (b+2) (fN (S6 2 h.f.sty)) (by simp[go_sem,z1]) rfl _ _ (by rw[←z1];exact qc _ _) kr0 kr0 (aa4 _) ?_));refine qz (fun w'=>(∃y,w'=plus w1 y)∧w'.heap[b+2]?=some (.cells (fN (S6 2 h.f.sty)).toArray 56)∧w'.heap.size=b+3) ⟨ql sk9 om0,by rw[←z1];exact p9 (qc _ _),by rw[setRow_size,j8,z1]⟩ ?_;rintro w2 ⟨x2,k3,z2⟩;have q0:=qf x2 p0;go_upto_region 11 with(first|(refine qY rfl 45 _ rfl b 1 rfl (mtL h.f.m) _ (fun j v hv=>qf x2 (k9 k1 (hmt j v hv))) Tryz.underlying45 rfl kr0 ?_)|(refine zu rfl 45 _ _ rfl (b+2) 1 (mtL h.f.m) rfl rfl _ _ k3 kr0 (Nat.le_of_ble_eq_true kr0) (a9f _) ?_));refine qz (fun w'=>(∃y,w'=plus w y)∧w'.heap[b+2]?=some (.cells (fN (⟨⟨2,h.f.m,0,zl,0,h.f.sty⟩,none,0,0⟩)).toArray 56)∧w'.heap[b+1]?=some (.cells z.toArray 56)) ⟨ql (i9 x1 x2) om0,p9 k3,l9 (i7 x2 k2) om0⟩ ?_;rintro w4 ⟨x4,k5,k6⟩;go_wp2_with (first|(refine wpList_load_row rfl 56 _ rfl (b+2) rfl _ _ _ _ k5 Tryz.underlying56 rfl kr0 ?_)|(refine j6 rfl 56 _ _ rfl (b+1) (fN (⟨⟨2,h.f.m,0,zl,0,h.f.sty⟩,none,0,0⟩)) rfl rfl _ _ k6 kr0 (by rw[ag0];simpa using hz) (aa4 _) ?_));exact bodyPost_ret (v:=vN (⟨⟨2,h.f.m,0,zl,0,h.f.sty⟩,none,0,0⟩)) (results_cell_row Tryz.results49 _ _ (b+1) 56 _ _ _ rfl (p9 k6) Tryz.underlying56 rfl kr0) rfl ⟨rfl,ql x4 om0⟩
theorem a5I(h:NH)(hk:h.f.kind=3)(w:World):Calls Tryz.prog 49 #[vN h] w fun e w'=>e=.returned (vN (H8 h))∧∃y,w'=plus w y:=by
 show Calls Tryz.prog 49 #[.agg (fN h).toArray] w fun e w'=>e=.returned (vN (H8 h))∧∃y,w'=plus w y
 rw[show H8 h=⟨⟨3,L6,h.f.on,zl,0,h.f.sty⟩,none,0,0⟩by simp[H8,Zm,hk]];have hsty:=Zv h;have hmt:=ad9 h;have hv3:=ae8 h;have hkind:=ZL h;have hfar:=ah1 h;have hon:(fN h)[13]?=some (.int .u16 h.f.on):=rfl;have hme:(fN h)[18]?=some (.int .i64 h.f.mesh):=rfl;rw[hk]at hkind;obtain⟨cs,hcs⟩:∃cs,fN h=cs:=⟨_,rfl⟩;rw[hcs]at hsty hmt hv3 hkind hfar hon hme ⊢;have hc:cs.length=33:=by rw[←hcs];rfl
 have h1:∀v∈cs,v.oneCell'=true:=by rw[←hcs];exact aa4 h
 obtain⟨b,hb⟩:∃b,w.heap.size=b:=⟨_,rfl⟩;clear hcs;go_enter Tryz.func49,Tryz.ntmps49;go_upto_region 1 with fail;refine qz (fun w'=>(∃y,w'=plus w y)∧w'.heap[b]?=some (.cells cs.toArray 56)∧(∃z:List Value,w'.heap[b+1]?=some (.cells z.toArray 56)∧z.length=33)∧w'.heap.size=b+2) ⟨sk9,hb▸qm (qc _ _),⟨_,by rw[←hb,←j8 w];exact qc _ _,rfl⟩,by rw[j8,j8,hb]⟩ ?_
 try simp only[hb]
 rintro w1 ⟨x1,k1,⟨z,k2,hz⟩,z1⟩;have p0:=k9 k1 hkind;go_upto_region 2 with(first|(refine qY rfl 54 _ rfl b 19 rfl (syL h.f.sty) _ (fun j v hv=>k9 k1 (hsty j v hv)) Tryz.underlying54 rfl kr0 ?_)|(refine z8 rfl 56 _ rfl (fN (S6 3 h.f.sty)) ?hf ?_;case hf=>simp only[List.map_toArray,List.map_cons,List.map_nil];exact T9 _ _)|(refine j6 rfl 56 _ _ rfl (b+2) (fN (S6 3 h.f.sty)) (by simp[go_sem,z1]) rfl _ _ (by rw[←z1];exact qc _ _) kr0 kr0 (aa4 _) ?_));refine qz (fun w'=>(∃y,w'=plus w1 y)∧w'.heap[b+2]?=some (.cells (fN (S6 3 h.f.sty)).toArray 56)∧w'.heap.size=b+3) ⟨ql sk9 om0,by rw[←z1];exact p9 (qc _ _),by rw[setRow_size,j8,z1]⟩ ?_;rintro w2 ⟨x2,k3,z2⟩;have q0:=qf x2 p0;have q1:=qf x2 (k9 k1 hon);have q2:=k9 (i:=13) k3 rfl;have q3:=j9 (i:=13) k3;go_upto_region 11 with fail;refine qz (fun w'=>(∃y,w'=plus w y)∧w'.heap[b+2]?=some (.cells (fN (⟨⟨3,L6,h.f.on,zl,0,h.f.sty⟩,none,0,0⟩)).toArray 56)∧w'.heap[b+1]?=some (.cells z.toArray 56)) ⟨qb (i9 x1 x2) om0,by have:=y8 (i:=13) (u:=.int .u16 h.f.on) k3;exact this,qj (i7 x2 k2) om0⟩ ?_;rintro w4 ⟨x4,k5,k6⟩;go_wp2_with (first|(refine wpList_load_row rfl 56 _ rfl (b+2) rfl _ _ _ _ k5 Tryz.underlying56 rfl kr0 ?_)|(refine j6 rfl 56 _ _ rfl (b+1) (fN (⟨⟨3,L6,h.f.on,zl,0,h.f.sty⟩,none,0,0⟩)) rfl rfl _ _ k6 kr0 (by rw[ag0];simpa using hz) (aa4 _) ?_));exact bodyPost_ret (v:=vN (⟨⟨3,L6,h.f.on,zl,0,h.f.sty⟩,none,0,0⟩)) (results_cell_row Tryz.results49 _ _ (b+1) 56 _ _ _ rfl (p9 k6) Tryz.underlying56 rfl kr0) rfl ⟨rfl,ql x4 om0⟩
theorem a7c(h:NH)(hk:h.f.kind=5)(w:World):Calls Tryz.prog 49 #[vN h] w fun e w'=>e=.returned (vN (H8 h))∧∃y,w'=plus w y:=by
 show Calls Tryz.prog 49 #[.agg (fN h).toArray] w fun e w'=>e=.returned (vN (H8 h))∧∃y,w'=plus w y
 rw[show H8 h=⟨⟨5,L6,0,zl,h.f.mesh,h.f.sty⟩,none,0,0⟩by simp[H8,Zm,hk]];have hsty:=Zv h;have hmt:=ad9 h;have hv3:=ae8 h;have hkind:=ZL h;have hfar:=ah1 h;have hon:(fN h)[13]?=some (.int .u16 h.f.on):=rfl;have hme:(fN h)[18]?=some (.int .i64 h.f.mesh):=rfl;rw[hk]at hkind;obtain⟨cs,hcs⟩:∃cs,fN h=cs:=⟨_,rfl⟩;rw[hcs]at hsty hmt hv3 hkind hfar hon hme ⊢;have hc:cs.length=33:=by rw[←hcs];rfl
 have h1:∀v∈cs,v.oneCell'=true:=by rw[←hcs];exact aa4 h
 obtain⟨b,hb⟩:∃b,w.heap.size=b:=⟨_,rfl⟩;clear hcs;go_enter Tryz.func49,Tryz.ntmps49;go_upto_region 1 with fail;refine qz (fun w'=>(∃y,w'=plus w y)∧w'.heap[b]?=some (.cells cs.toArray 56)∧(∃z:List Value,w'.heap[b+1]?=some (.cells z.toArray 56)∧z.length=33)∧w'.heap.size=b+2) ⟨sk9,hb▸qm (qc _ _),⟨_,by rw[←hb,←j8 w];exact qc _ _,rfl⟩,by rw[j8,j8,hb]⟩ ?_
 try simp only[hb]
 rintro w1 ⟨x1,k1,⟨z,k2,hz⟩,z1⟩;have p0:=k9 k1 hkind;go_upto_region 2 with(first|(refine qY rfl 54 _ rfl b 19 rfl (syL h.f.sty) _ (fun j v hv=>k9 k1 (hsty j v hv)) Tryz.underlying54 rfl kr0 ?_)|(refine z8 rfl 56 _ rfl (fN (S6 5 h.f.sty)) ?hf ?_;case hf=>simp only[List.map_toArray,List.map_cons,List.map_nil];exact T9 _ _)|(refine j6 rfl 56 _ _ rfl (b+2) (fN (S6 5 h.f.sty)) (by simp[go_sem,z1]) rfl _ _ (by rw[←z1];exact qc _ _) kr0 kr0 (aa4 _) ?_));refine qz (fun w'=>(∃y,w'=plus w1 y)∧w'.heap[b+2]?=some (.cells (fN (S6 5 h.f.sty)).toArray 56)∧w'.heap.size=b+3) ⟨ql sk9 om0,by rw[←z1];exact p9 (qc _ _),by rw[setRow_size,j8,z1]⟩ ?_;rintro w2 ⟨x2,k3,z2⟩;have q0:=qf x2 p0;have q1:=qf x2 (k9 k1 hme);have q2:=k9 (i:=18) k3 rfl;have q3:=j9 (i:=18) k3;go_upto_region 11 with fail;refine qz (fun w'=>(∃y,w'=plus w y)∧w'.heap[b+2]?=some (.cells (fN (⟨⟨5,L6,0,zl,h.f.mesh,h.f.sty⟩,none,0,0⟩)).toArray 56)∧w'.heap[b+1]?=some (.cells z.toArray 56)) ⟨qb (i9 x1 x2) om0,by have:=y8 (i:=18) (u:=.int .i64 h.f.mesh) k3;exact this,qj (i7 x2 k2) om0⟩ ?_;rintro w4 ⟨x4,k5,k6⟩;go_wp2_with (first|(refine wpList_load_row rfl 56 _ rfl (b+2) rfl _ _ _ _ k5 Tryz.underlying56 rfl kr0 ?_)|(refine j6 rfl 56 _ _ rfl (b+1) (fN (⟨⟨5,L6,0,zl,h.f.mesh,h.f.sty⟩,none,0,0⟩)) rfl rfl _ _ k6 kr0 (by rw[ag0];simpa using hz) (aa4 _) ?_));exact bodyPost_ret (v:=vN (⟨⟨5,L6,0,zl,h.f.mesh,h.f.sty⟩,none,0,0⟩)) (results_cell_row Tryz.results49 _ _ (b+1) 56 _ _ _ rfl (p9 k6) Tryz.underlying56 rfl kr0) rfl ⟨rfl,ql x4 om0⟩
end
section
open Go.RowKit
def a8P (G:(Nat→Bool)→World→(Nat→Bool)→World→Prop) (P:Program) (md:Region.Mode) (ops:Array Oper) (n:Nat) (Φ:Nat→(Nat→Value)→(Nat→Bool)→World→Prop) (a0:Act) (w0:World) (Q:Exit→Act→World→Prop):List Oper→Nat→Prop:=
 ab3 fun i o=>∀a D w,G F8 w0 D w→(∀s,(ops.any fun o=>o.dst==some s)=false→got a s=got a0 s)→(∀j,N5 md ops ops.size 8 i j=true→Φ j (got a) D w)→D i=false→
   o.wp P a w (fun a' w'=>∃v,a'=a.put o.dst v∧G D w (aq6 D i) w'∧Φ i (upd (got a) o.dst v) (aq6 D i) w') Q
theorem zR{P:Program}{Q:Exit→Act→World→Prop}{id:Nat}{l:List Oper}(n:Nat)(S:Nat→List Nat)(Φ:Nat→(Nat→Value)→(Nat→Bool)→World→Prop){a:Act}{w:World}(G:(Nat→Bool)→World→(Nat→Bool)→World→Prop)(hG:∀D1 w1 D2 w2 D3 w3,G D1 w1 D2 w2→G D2 w2 D3 w3→G D1 w1 D3 w3)(hd:G F8 w F8 {w with drawn:=w.drawn+1})(hm:P.follows .mixedOrders=true)(hB:a3G .any l.toArray n S a.tmps.size=true)(hn:n≤l.length)
  (hmono:∀i t t' D w D' w',Φ i t D w→(∀s∈S i,t' s=t s)→G D w D' w'→Φ i t' D' w')
  (hst:a8P G P .any l.toArray n Φ a w Q (l.take n) 0)
  (hend:∀t D w',(∀j,j<n→D j=true)→G F8 w D w'→(∀j,j<n→Φ j t D w')→wpList P l.toArray Q (l.drop n) (zh t (l.take n) a) w'):(Code.region id l.toArray true).wp P Q a w:=
 X0 n S Φ G hG hd hm hB hn hmono (T7 (fun _ _ q a D w h1 h2 h3 h4=>q a D w h1 (fun s hs=>h2 s (az1 hs)) h3 h4) _ _ hst) hend
end
section
open Go.RowKit
structure ap4 (d:Nat) (gb:Option Nat) (D:Nat→Bool) (w:World) (D':Nat→Bool) (w':World):Prop where
 mono:D d=true→D' d=true
 grow:w.grownBy w' gb
 same:D d=D' d→∀k,k<w.heap.size→w'.heap[k]?=w.heap[k]?
section
variable {d:Nat} {gb:Option Nat} {D D':Nat→Bool} {w w':World}
theorem S8:∀D1 w1 D2 w2 D3 w3,ap4 d gb D1 w1 D2 w2→ap4 d gb D2 w2 D3 w3→ap4 d gb D1 w1 D3 w3:=by
 intro D1 w1 D2 w2 D3 w3 h1 h2;refine⟨fun h=>h2.mono (h1.mono h),⟨h2.grow.os.trans h1.grow.os,h2.grow.tape.trans h1.grow.tape,h2.grow.output.trans h1.grow.output,Nat.le_trans h1.grow.size h2.grow.size,fun k hk hne=>(h2.grow.block k (Nat.lt_of_lt_of_le hk h1.grow.size) hne).trans (h1.grow.block k hk hne)⟩,fun h k hk=>?_⟩;have e:D1 d=D2 d∧D2 d=D3 d:=by
  cases e1:D1 d with
  |true=>
   have e2:=h1.mono e1;exact⟨e2.symm,by rw[e2,←h,e1]⟩
  |false=>
   cases e2:D2 d with
   |false=>exact⟨rfl,by rw[←h,e1]⟩
   |true=>
    have e3:=h2.mono e2;rw[←h,e1]at e3;cases e3
 exact(h2.same e.2 k (Nat.lt_of_lt_of_le hk h1.grow.size)).trans (h1.same e.1 k hk)
theorem Y6(w:World):ap4 d gb F8 w F8 {w with drawn:=w.drawn+1}:=⟨id,⟨rfl,rfl,rfl,Nat.le_refl _,fun _ _ _=>rfl⟩,fun _ _ _=>rfl⟩
theorem G3{i j:Nat}(h:D j=true):aq6 D i j=true:=by simp[aq6,h]
theorem y9(i:Nat):aq6 D i i=true:=by simp[aq6]
theorem a78{i j:Nat}(h:i≠j):aq6 D i j=D j:=by
 have h':¬j=i:=fun e=>h e.symm
 simp[aq6,h']
theorem t7{i:Nat}(h:∃x,w'=plus w x):ap4 d gb D w (aq6 D i) w':=by
 obtain⟨x,rfl⟩:=h;have hb:=A3 w x;exact⟨G3,⟨hb.os,hb.tape,hb.output,hb.size,fun k hk _=>hb.block k hk⟩,fun _ k hk=>hb.block k hk⟩
theorem ak7(hg:w.grownBy w' gb)(hD:D d=false):ap4 d gb D w (aq6 D d) w':=
 ⟨G3,hg,fun h=>by rw[hD,y9]at h;cases h⟩
theorem qI{k:Nat}{o:Obj}(h:ap4 d gb D w D' w')(hne:some k≠gb)(hk:w.heap[k]?=some o):w'.heap[k]?=some o:=by
 rw[h.grow.block k (qi hk) hne];exact hk
theorem au5{k:Nat}{o:Obj}(h:ap4 d gb D w D' w')(hd:D d=D' d)(hk:w.heap[k]?=some o):w'.heap[k]?=some o:=by
 rw[h.same hd k (qi hk)];exact hk
theorem B7(h:ap4 d gb F8 w D w')(hD:D d=false):∃x,w'=plus w x:=
 C3 ⟨h.grow.os,h.grow.tape,h.grow.output,h.grow.size,fun k hk=>h.same (by rw[hD];rfl) k hk⟩
theorem ZF{T:World}(h:ap4 d gb D w D' w')(hw:∃y,w=plus T y)(hB:∀k,gb=some k→T.heap.size≤k):∃y,w'=plus T y:=by
 obtain⟨y,rfl⟩:=hw;apply C3;have hb:=A3 T y;refine⟨h.grow.os.trans hb.os,h.grow.tape.trans hb.tape,h.grow.output.trans hb.output,Nat.le_trans hb.size h.grow.size,fun n hn=>?_⟩;rw[h.grow.block n (Nat.lt_of_lt_of_le hn hb.size) (fun e=>by have:=hB n e.symm;omega)];exact hb.block n hn
end
section
variable {α:Type} {f:α→List Value} {T w w':World} {ao:Option Addr} {n cap c:Nat} {l:List α} {e:TypeId} {gb:Option Nat}
theorem Qq(h:Own e c f T w ao n cap l)(hg:w.grownBy w' gb)(hne:∀a,ao=some a→some a.block≠gb):Own e c f T w' ao n cap l:=by
 refine⟨h.1,h.2.1,h.2.2.imp id ?_⟩;rintro⟨k,cp,cu,a1,a2,a3,a4⟩;refine⟨k,cp,cu,a1,a2,?_,a4⟩;rw[hg.block k (qi a3) ?_]
 ·exact a3
 ·simp only[Value.slice.injEq]at a1;exact hne _ a1.1
theorem R8{e':TypeId}{cur:Array Value}{k:Nat}(h:Own e c f T w ao n cap l)(hg:w.grownBy w' (some k))(hb:w.heap[k]?=some (.cells cur e'))(hne:e'≠e):Own e c f T w' ao n cap l:=by
 refine⟨h.1,h.2.1,h.2.2.imp id ?_⟩;rintro⟨q,cp,cu,a1,a2,a3,a4⟩;refine⟨q,cp,cu,a1,a2,?_,a4⟩;rw[hg.block q (qi a3) ?_]
 ·exact a3
 ·intro e0;cases e0;rw[hb]at a3;cases a3;exact hne rfl
theorem ay6{d:Nat}{D D':Nat→Bool}(h:Own e c f T w ao n cap l)(ht:ap4 d gb D w D' w')(hD:D d=true):Own e c f T w' ao n cap l:=by
 refine⟨h.1,h.2.1,h.2.2.imp id ?_⟩;rintro⟨k,cp,cu,a1,a2,a3,a4⟩;refine⟨k,cp,cu,a1,a2,?_,a4⟩;rw[ht.same (by rw[hD,ht.mono hD]) k (qi a3)];exact a3
end
end
section
open Go.RowKit
theorem a5t{cur:Array Value}{i:Nat}{v:Value}{rest:List Value}(h:i+(rest.length+1)≤cur.size):H6 (cur.setIfInBounds i v) (i+1) rest=H6 cur i (v::rest):=by
 unfold H6
 congr 1
 apply List.ext_getElem?;intro k;simp only[Array.toList_setIfInBounds,List.getElem?_append,List.length_take,List.length_set,Array.length_toList,List.getElem?_take,List.getElem?_drop,List.getElem?_set,List.length_cons,List.getElem?_cons];rw[show min (i+1) cur.size=i+1 by omega,show min i cur.size=i by omega];by_cases hk:k<i
 ·simp[hk,show k<i+1 by omega,show¬i=k by omega]
 ·by_cases hk2:k=i
  ·subst hk2;simp[show k<cur.size by omega]
  ·have e1:¬k<i+1:=om0;simp only[hk,e1,if_false];by_cases hk3:k - (i+1)<rest.length
   ·simp[hk3,show k - i - 1=k - (i+1)by omega,show k - i<rest.length+1 by omega,show¬k - i=0 by omega]
   ·simp[hk3,show¬k - i<rest.length+1 by omega,show¬i=i+1+rest.length+(k - (i+1) - rest.length)by omega]
    congr 1
    omega
theorem a1f:∀(cs:List Value) (i:Nat) (z:Array Value),i+cs.length≤z.size→List.foldl (fun(a:Array Value) (x:Value × Nat)=>a.setIfInBounds x.snd x.fst) z (cs.zipIdx i)=H6 z i cs
 |[],i,z,_=>by simp[H6]
 |v::rest,i,z,h=>by
  have h':i+(rest.length+1)≤z.size:=by simpa using h
  rw[List.zipIdx_cons,List.foldl_cons,a1f rest (i+1) (z.setIfInBounds i v) (by simp;omega)];exact a5t h'
theorem ai4(cs:List Value)(z:Array Value)(hz:z.size=cs.length):List.foldl (fun(a:Array Value) (x:Value × Nat)=>a.setIfInBounds x.snd x.fst) z cs.zipIdx=cs.toArray:=by
 rw[a1f cs 0 z om0];unfold H6;rw[Nat.zero_add,List.drop_eq_nil_of_le (by simp;omega)];simp
theorem av8{P:Program}{o:Oper}{a:Act}{w:World}{K:Act→World→Prop}{Q:Exit→Act→World→Prop}(ty:TypeId)(x y:Operand)(ho:o.op=.store ty x y)(g off:Nat)(cs:List Value)(hx:a.eval x=.pointer (some ⟨g,off,none⟩))(hy:a.eval y=.agg cs.toArray)
  (t:TypeId) (cur:Array Value) (hg:w.heap[g]?=some (.cells cur t (0,0))) (hi:(P.info? ty).map (·.size)=some cs.length) (hn:off+cs.length≤cur.size) (h1:∀v∈cs,v.oneCell'=true)
  (h:K (a.put o.dst undef) (w.setRow g (H6 cur off cs))):o.wp P a w K Q:=by
 unfold Oper.wp execOp;simp only[ho,hx,hy,Instr.storeAt,Instr.sureAddr,Sem.run_bind,Sem.run_pure,Result.andThen_ok,S9 w g off t ty cur cs hg hi hn h1];exact h
theorem R6{P:Program}{o:Oper}{a:Act}{w:World}{K:Act→World→Prop}{Q:Exit→Act→World→Prop}(ty:TypeId)(x:Operand)(ho:o.op=.load ty x)(g off:Nat)(hx:a.eval x=.pointer (some ⟨g,off,none⟩))(cs:List Value)(d:TypeDesc)(hc:∀j v,cs[j]?=some v→w.cell? ⟨g,off+j,none⟩=some v)
  (hu:P.underlying ty=some d) (hd:(match d with|.struct _|.array _ _=>true|_=>false)=true) (hi:(P.info? ty).map (·.size)=some cs.length) (h:K (a.put o.dst (.agg cs.toArray)) w):o.wp P a w K Q:=by
 unfold Oper.wp;rw[zP ty x ho g off hx cs d hc hu hd hi];exact h
end
section
theorem a4p{w:World}{g:Nat}{cs:Array Value}:w.grownBy (w.setRow g cs) (some g):=⟨rfl,rfl,rfl,by rw[setRow_size];exact Nat.le_refl _,fun k _ hne=>Qe (fun e=>hne (by rw[e]))⟩
def k4S (i:Nat):List Nat:=match i with|0=>[23]|1=>[24]|2=>[25]|3=>[26]|4=>[27]|5=>[]|_=>[]
def k4Φ (b:Nat) (cen:V3) (y:Sy) (ao:Option Addr) (n cap:Nat) (gq:Option Nat) (i:Nat) (t:Nat→Value) (D:Nat→Bool) (w':World):Prop:=match i with
 |0=>t 23=.pointer (some ⟨b,14,none⟩)
 |1=>t 24=.agg (v3L cen).toArray
 |2=>t 25=.pointer (some ⟨b,17,none⟩)
 |3=>t 26=.slice ao n cap
 |4=>t 27=.pointer (some ⟨b+2,14,none⟩)
 |5=>D 5=true∧w'.heap[b+2]?=some (.cells (fN ⟨⟨4,L6,0,cen,0,y⟩,none,0,0⟩).toArray 56)
 |_=>True
theorem a6q(b:Nat)(cen:V3)(y:Sy)(ao:Option Addr)(n cap:Nat)(gq:Option Nat):∀i t t' D w D' w',k4Φ b cen y ao n cap gq i t D w→(∀s∈k4S i,t' s=t s)→ap4 5 gq D w D' w'→k4Φ b cen y ao n cap gq i t' D' w':=by
 intro i t t' D w D' w' h hs' ht
 match i with
 |0=>exact(hs' 23 dc0).trans h
 |1=>exact(hs' 24 dc0).trans h
 |2=>exact(hs' 25 dc0).trans h
 |3=>exact(hs' 26 dc0).trans h
 |4=>exact(hs' 27 dc0).trans h
 |5=>exact⟨ht.mono h.1,au5 ht (by rw[h.1,ht.mono h.1]) h.2⟩
 |i+6=>trivial
theorem a6E(h:NH)(hk:h.f.kind=4)(w:World):Calls Tryz.prog 49 #[vN h] w fun e w'=>e=.returned (vN (H8 h))∧∃y,w'=plus w y:=by
 show Calls Tryz.prog 49 #[.agg (fN h).toArray] w fun e w'=>e=.returned (vN (H8 h))∧∃y,w'=plus w y
 rw[show H8 h=⟨⟨4,L6,0,h.f.cen,0,h.f.sty⟩,h.ao,h.n,h.cap⟩by simp[H8,Zm,hk]];have hsty:=Zv h;have hmt:=ad9 h;have hv3:=ae8 h;have hkind:=ZL h;have hfar:=ah1 h;have hon:(fN h)[13]?=some (.int .u16 h.f.on):=rfl;have hme:(fN h)[18]?=some (.int .i64 h.f.mesh):=rfl;rw[hk]at hkind;obtain⟨cs,hcs⟩:∃cs,fN h=cs:=⟨_,rfl⟩;rw[hcs]at hsty hmt hv3 hkind hfar hon hme ⊢;have hc:cs.length=33:=by rw[←hcs];rfl
 have h1:∀v∈cs,v.oneCell'=true:=by rw[←hcs];exact aa4 h
 obtain⟨b,hb⟩:∃b,w.heap.size=b:=⟨_,rfl⟩;clear hcs;go_enter Tryz.func49,Tryz.ntmps49;go_upto_region 1 with fail;refine qz (fun w'=>(∃y,w'=plus w y)∧w'.heap[b]?=some (.cells cs.toArray 56)∧(∃z:List Value,w'.heap[b+1]?=some (.cells z.toArray 56)∧z.length=33)∧w'.heap.size=b+2) ⟨sk9,hb▸qm (qc _ _),⟨_,by rw[←hb,←j8 w];exact qc _ _,rfl⟩,by rw[j8,j8,hb]⟩ ?_
 try simp only[hb]
 rintro w1 ⟨x1,k1,⟨z,k2,hz⟩,z1⟩;have p0:=k9 k1 hkind;go_upto_region 2 with(first|(refine qY rfl 54 _ rfl b 19 rfl (syL h.f.sty) _ (fun j v hv=>k9 k1 (hsty j v hv)) Tryz.underlying54 rfl kr0 ?_)|(refine z8 rfl 56 _ rfl (fN (S6 4 h.f.sty)) ?hf ?_;case hf=>simp only[List.map_toArray,List.map_cons,List.map_nil];exact T9 _ _)|(refine j6 rfl 56 _ _ rfl (b+2) (fN (S6 4 h.f.sty)) (by simp[go_sem,z1]) rfl _ _ (by rw[←z1];exact qc _ _) kr0 kr0 (aa4 _) ?_));refine qz (fun w'=>(∃y,w'=plus w1 y)∧w'.heap[b+2]?=some (.cells (fN (S6 4 h.f.sty)).toArray 56)∧w'.heap.size=b+3) ⟨ql sk9 om0,by rw[←z1];exact p9 (qc _ _),by rw[setRow_size,j8,z1]⟩ ?_;rintro w2 ⟨x2,k3,z2⟩;have q0:=qf x2 p0;go_upto_region 8 with fail;have kb2:=i7 x2 k1;have nbq:(b:Nat)≠b+2:=om0;refine zR 6 k4S (k4Φ b h.f.cen h.f.sty h.ao h.n h.cap (some (b+2))) (ap4 5 (some (b+2))) S8 (Y6 _) kr0 kr0 dc0 (a6q b h.f.cen h.f.sty h.ao h.n h.cap (some (b+2))) ?steps ?fin
 case steps=>
  refine⟨?_,?_,?_,?_,?_,?_,trivial⟩<;>intro a D w' hg hfree hdeep hD
  ·have f1_:=hfree 1 kr0;simp only[k4Φ,got]at f1_;simp[go_sem]at f1_;unfold Oper.wp;simp[go_sem,execOp,Act.eval,↓IntWalk.iteOmega,f1_];exact⟨_,rfl,t7 (j5 _),by simp[k4Φ,upd]⟩
  ·have d0:=hdeep 0 kr0;simp only[k4Φ,got]at d0;simp at d0;refine R6 43 _ rfl b 14 (by simp[Act.eval,d0]) (v3L h.f.cen) _ (fun j v hv=>k9 (qI hg (fun e=>by cases e) kb2) (hv3 j v hv)) Tryz.underlying43 rfl kr0 ?_;exact⟨_,rfl,t7 (j5 _),by simp[k4Φ,upd]⟩
  ·have f1_:=hfree 1 kr0;simp only[k4Φ,got]at f1_;simp[go_sem]at f1_;unfold Oper.wp;simp[go_sem,execOp,Act.eval,↓IntWalk.iteOmega,f1_];exact⟨_,rfl,t7 (j5 _),by simp[k4Φ,upd]⟩
  ·have d2:=hdeep 2 kr0;simp only[k4Φ,got]at d2;simp at d2;have c17:=k9 (qI hg (fun e=>by cases e) kb2) hfar;unfold Oper.wp;simp[go_sem,execOp,Act.eval,↓IntWalk.iteOmega,d2,c17];exact⟨_,rfl,t7 (j5 _),by simp[k4Φ,upd]⟩
  ·have f3_:=hfree 3 kr0;simp only[k4Φ,got]at f3_;simp[go_sem]at f3_;unfold Oper.wp;simp[go_sem,execOp,Act.eval,↓IntWalk.iteOmega,f3_];exact⟨_,rfl,t7 (j5 _),by simp[k4Φ,upd]⟩
  ·have d1:=hdeep 1 kr0;have d4:=hdeep 4 kr0;simp only[k4Φ,got]at d1 d4;simp at d1 d4;have kq:=au5 hg hD.symm k3;refine av8 43 _ _ rfl (b+2) 14 (v3L h.f.cen) (by simp[Act.eval,d4]) (by simp[Act.eval,d1]) _ _ kq kr0 (Nat.le_of_ble_eq_true kr0) (a9h _) ?_;exact⟨undef,rfl,ak7 a4p hD,y9 _,p9 kq⟩
 case fin=>
 rintro t D w9 hDa hg hΦ;have e0:=hΦ 0 dc0;have e1:=hΦ 1 dc0;have e2:=hΦ 2 dc0;have e3:=hΦ 3 dc0;have e4:=hΦ 4 dc0;obtain⟨_,k5⟩:=hΦ 5 dc0;simp only[k4Φ]at e0 e1 e2 e3 e4;simp only[zh,List.take_succ_cons,List.take_zero,List.drop_succ_cons,List.drop_zero,e0,e1,e2,e3,e4];simp only[Act.put];simp only[List.setIfInBounds_toArray,List.set_cons_succ,List.set_cons_zero];clear hΦ e0 e1 e2 e3 e4;have q17:=k9 (i:=17) k5 rfl;have f17:=j9 (i:=17) k5;have hx9:=ZF hg (i9 x1 x2) (fun q hq=>by cases hq;omega);have kz:=qI hg (fun e=>by cases e) (i7 x2 k2);go_upto_region 11 with fail;refine qz (fun w'=>(∃y,w'=plus w y)∧w'.heap[b+2]?=some (.cells (fN (⟨⟨4,L6,0,h.f.cen,0,h.f.sty⟩,h.ao,h.n,h.cap⟩)).toArray 56)∧w'.heap[b+1]?=some (.cells z.toArray 56)) ⟨qb hx9 om0,by have:=y8 (i:=17) (u:=.slice h.ao h.n h.cap) k5;exact this,qj kz om0⟩ ?_;rintro w4 ⟨x4,k5,k6⟩;go_wp2_with (first|(refine wpList_load_row rfl 56 _ rfl (b+2) rfl _ _ _ _ k5 Tryz.underlying56 rfl kr0 ?_)|(refine j6 rfl 56 _ _ rfl (b+1) (fN (⟨⟨4,L6,0,h.f.cen,0,h.f.sty⟩,h.ao,h.n,h.cap⟩)) rfl rfl _ _ k6 kr0 (by rw[ag0];simpa using hz) (aa4 _) ?_));exact bodyPost_ret (v:=vN (⟨⟨4,L6,0,h.f.cen,0,h.f.sty⟩,h.ao,h.n,h.cap⟩)) (results_cell_row Tryz.results49 _ _ (b+1) 56 _ _ _ rfl (p9 k6) Tryz.underlying56 rfl kr0) rfl ⟨rfl,ql x4 om0⟩
theorem X3(h:NH)(w:World):Calls Tryz.prog 49 #[vN h] w fun e w'=>e=.returned (vN (H8 h))∧∃y,w'=plus w y:=by
 by_cases h2:h.f.kind=2
 ·exact a5G h h2 w
 by_cases h3:h.f.kind=3
 ·exact a5I h h3 w
 by_cases h4:h.f.kind=4
 ·exact a6E h h4 w
 by_cases h5:h.f.kind=5
 ·exact a7c h h5 w
 exact a6S h.f.kind h rfl h2 h3 h4 h5 w
end
section
def ay3 (l:List Int) (k:Nat):Int:=if k=0 then 0 else nth 0 l (k - 1)
theorem a1X(l:List Int)(k:Nat)(h:∀j,j<k→U0 l j=true):U0 l k= !(decide (nth 0 l k<ay3 l k)||decide (8192<nth 0 l k)):=by
 unfold U0 ay3;by_cases hk:k=0
 ·subst hk;by_cases h1:nth 0 l 0<0<;>by_cases h2:8192<nth 0 l 0<;>simp[h1,h2]<;>omega
 ·have hp:=h (k - 1) om0;simp only[U0,Bool.and_eq_true,decide_eq_true_eq]at hp;rw[if_neg hk];have:=hp.1;by_cases h1:nth 0 l k<nth 0 l (k - 1)<;>by_cases h2:8192<nth 0 l k<;>simp[h1,h2,hk]<;>omega
theorem a4Q(ao:Option Addr)(n cap:Nat)(l:List Int)(w:World)(hl:Lay fI w ao n l)(hn:n≤9223372036854775807):
  Calls Tryz.prog 96 #[.slice ao n cap] w fun e w'=>e=.returned (.bool (G8 l))∧∃y,w'=plus w y:=by
 have hlen:=hl.len;by_cases h16:16<n
 ·have i16:(16:Int)<(n:Int):=om0;go_enter Tryz.func96,Tryz.ntmps96;go_wp2;go_ret;exact⟨by rw[show G8 l=false by simp[G8];omega];rfl,sk9⟩
 have i16:¬(16:Int)<(n:Int):=om0;go_enter Tryz.func96,Tryz.ntmps96;go_wp2;go_loopw [11,3] (fun i a wr=>∃k:Nat,k≤n∧i=.int .i64 k∧a=.int .i64 (ay3 l k)∧(∀j,j<k→U0 l j=true)∧∃y,wr=plus w y) (fun i _ _=>n - (intOf i).toNat)
 case atStart=>exact⟨0,Nat.zero_le _,rfl,rfl,fun j hj=>om0,sk9⟩
 case round=>
  obtain⟨k,hk,rfl,rfl,hs,y,rfl⟩:=hrel;by_cases hkl:k<n
  ·obtain⟨g,off,rfl,hg,hcell⟩:=hl.some om0;have c0:=Qh hlen hcell hkl;have ik:(k:Int)<(n:Int):=om0;have hfa:=a1X l k hs;obtain⟨ah,hah⟩:∃a,ay3 l k=a:=⟨_,rfl⟩;rw[hah]at hfa ⊢;by_cases h0:nth 0 l k<ah
   ·have e0:=decide_eq_true h0;rw[e0]at hfa
    replace hfa:=qw.mk hfa
    go_wp2;go_ret;exact⟨by rw[ab0 (k:=k) om0 (by rw[hfa.it];rfl)];rfl,sk9⟩
   have e0:=decide_eq_false h0;by_cases h1:8192<nth 0 l k
   ·have e1:=decide_eq_true h1;rw[e0,e1]at hfa
    replace hfa:=qw.mk hfa
    go_wp2;go_ret;exact⟨by rw[ab0 (k:=k) om0 (by rw[hfa.it];rfl)];rfl,sk9⟩
   have e1:=decide_eq_false h1;rw[e0,e1]at hfa
   replace hfa:=qw.mk hfa
   go_wp2;go_roundw
   case rel=>exact⟨k+1,om0,by go_num,rfl,zX hs hfa.it,sk9⟩
   case measure=>simp[intOf];omega
  ·have ik:¬(k:Int)<(n:Int):=om0;obtain rfl:n=k:=om0;have he:=a2X (l:=l) (fun j hj=>hs j om0);rw[hlen,decide_eq_true om0]at he
   replace he:=qw.mk he
   clear hs;go_wp2;go_ret;exact⟨by rw[he.it];rfl,sk9⟩
end
section
theorem a0H(w:World):
  Calls Tryz.prog 175 #[] w fun e w'=>e=.returned (.agg #[.func (.func 185) #[] #[],.func (.func 186) #[] #[],.func (.func 187) #[] #[],.func (.func 188) #[] #[],.func (.func 189) #[] #[]])∧Below w.heap.size w w':=by
 go_enter Tryz.func175,Tryz.ntmps175;go_wp2;exact bodyPost_ret (v:=.agg #[.func (.func 185) #[] #[],.func (.func 186) #[] #[],.func (.func 187) #[] #[],.func (.func 188) #[] #[],.func (.func 189) #[] #[]]) (by simp[results,Tryz.results175,go_sem,↓IntWalk.iteOmega]) rfl ⟨rfl,skB⟩
theorem J2(ur ug ub ua ut uc ui:Int)(ul:Bool)(un:Int)(vr vg vb va vt vc vi:Int)(vl:Bool)(vn:Int)(w:World):
  Calls Tryz.prog 185 #[.agg #[.int .u8 ur,.int .u8 ug,.int .u8 ub,.int .u8 ua,.int .i64 ut,.int .u8 uc,.int .i64 ui,.bool ul,.int .i64 un],.agg #[.int .u8 vr,.int .u8 vg,.int .u8 vb,.int .u8 va,.int .i64 vt,.int .u8 vc,.int .i64 vi,.bool vl,.int .i64 vn]] w fun e w'=>e=.returned (.agg #[.int .u8 vr,.int .u8 vg,.int .u8 vb,.int .u8 va,.int .i64 ut,.int .u8 uc,.int .i64 ui,.bool ul,.int .i64 un])∧Below w.heap.size w w':=by
 go_enter Tryz.func185,Tryz.ntmps185;go_wp2;exact bodyPost_ret (v:=.agg #[.int .u8 vr,.int .u8 vg,.int .u8 vb,.int .u8 va,.int .i64 ut,.int .u8 uc,.int .i64 ui,.bool ul,.int .i64 un]) (by simp[results,Tryz.results185,go_sem,↓IntWalk.iteOmega]) rfl ⟨rfl,skB⟩
theorem F9(ur ug ub ua ut uc ui:Int)(ul:Bool)(un:Int)(vr vg vb va vt vc vi:Int)(vl:Bool)(vn:Int)(w:World):
  Calls Tryz.prog 186 #[.agg #[.int .u8 ur,.int .u8 ug,.int .u8 ub,.int .u8 ua,.int .i64 ut,.int .u8 uc,.int .i64 ui,.bool ul,.int .i64 un],.agg #[.int .u8 vr,.int .u8 vg,.int .u8 vb,.int .u8 va,.int .i64 vt,.int .u8 vc,.int .i64 vi,.bool vl,.int .i64 vn]] w fun e w'=>e=.returned (.agg #[.int .u8 ur,.int .u8 ug,.int .u8 ub,.int .u8 ua,.int .i64 vt,.int .u8 uc,.int .i64 ui,.bool ul,.int .i64 un])∧Below w.heap.size w w':=by
 go_enter Tryz.func186,Tryz.ntmps186;go_wp2;exact bodyPost_ret (v:=.agg #[.int .u8 ur,.int .u8 ug,.int .u8 ub,.int .u8 ua,.int .i64 vt,.int .u8 uc,.int .i64 ui,.bool ul,.int .i64 un]) (by simp[results,Tryz.results186,go_sem,↓IntWalk.iteOmega]) rfl ⟨rfl,skB⟩
theorem L9(ur ug ub ua ut uc ui:Int)(ul:Bool)(un:Int)(vr vg vb va vt vc vi:Int)(vl:Bool)(vn:Int)(w:World):
  Calls Tryz.prog 187 #[.agg #[.int .u8 ur,.int .u8 ug,.int .u8 ub,.int .u8 ua,.int .i64 ut,.int .u8 uc,.int .i64 ui,.bool ul,.int .i64 un],.agg #[.int .u8 vr,.int .u8 vg,.int .u8 vb,.int .u8 va,.int .i64 vt,.int .u8 vc,.int .i64 vi,.bool vl,.int .i64 vn]] w fun e w'=>e=.returned (.agg #[.int .u8 ur,.int .u8 ug,.int .u8 ub,.int .u8 ua,.int .i64 ut,.int .u8 vc,.int .i64 ui,.bool ul,.int .i64 un])∧Below w.heap.size w w':=by
 go_enter Tryz.func187,Tryz.ntmps187;go_wp2;exact bodyPost_ret (v:=.agg #[.int .u8 ur,.int .u8 ug,.int .u8 ub,.int .u8 ua,.int .i64 ut,.int .u8 vc,.int .i64 ui,.bool ul,.int .i64 un]) (by simp[results,Tryz.results187,go_sem,↓IntWalk.iteOmega]) rfl ⟨rfl,skB⟩
theorem L7(ur ug ub ua ut uc ui:Int)(ul:Bool)(un:Int)(vr vg vb va vt vc vi:Int)(vl:Bool)(vn:Int)(w:World):
  Calls Tryz.prog 188 #[.agg #[.int .u8 ur,.int .u8 ug,.int .u8 ub,.int .u8 ua,.int .i64 ut,.int .u8 uc,.int .i64 ui,.bool ul,.int .i64 un],.agg #[.int .u8 vr,.int .u8 vg,.int .u8 vb,.int .u8 va,.int .i64 vt,.int .u8 vc,.int .i64 vi,.bool vl,.int .i64 vn]] w fun e w'=>e=.returned (.agg #[.int .u8 ur,.int .u8 ug,.int .u8 ub,.int .u8 ua,.int .i64 ut,.int .u8 uc,.int .i64 vi,.bool ul,.int .i64 un])∧Below w.heap.size w w':=by
 go_enter Tryz.func188,Tryz.ntmps188;go_wp2;exact bodyPost_ret (v:=.agg #[.int .u8 ur,.int .u8 ug,.int .u8 ub,.int .u8 ua,.int .i64 ut,.int .u8 uc,.int .i64 vi,.bool ul,.int .i64 un]) (by simp[results,Tryz.results188,go_sem,↓IntWalk.iteOmega]) rfl ⟨rfl,skB⟩
theorem K4(ur ug ub ua ut uc ui:Int)(ul:Bool)(un:Int)(vr vg vb va vt vc vi:Int)(vl:Bool)(vn:Int)(w:World):
  Calls Tryz.prog 189 #[.agg #[.int .u8 ur,.int .u8 ug,.int .u8 ub,.int .u8 ua,.int .i64 ut,.int .u8 uc,.int .i64 ui,.bool ul,.int .i64 un],.agg #[.int .u8 vr,.int .u8 vg,.int .u8 vb,.int .u8 va,.int .i64 vt,.int .u8 vc,.int .i64 vi,.bool vl,.int .i64 vn]] w fun e w'=>e=.returned (.agg #[.int .u8 ur,.int .u8 ug,.int .u8 ub,.int .u8 ua,.int .i64 ut,.int .u8 uc,.int .i64 ui,.bool vl,.int .i64 vn])∧Below w.heap.size w w':=by
 go_enter Tryz.func189,Tryz.ntmps189;go_wp2;go_region
 all_goals
  go_wp2;exact bodyPost_ret (v:=.agg #[.int .u8 ur,.int .u8 ug,.int .u8 ub,.int .u8 ua,.int .i64 ut,.int .u8 uc,.int .i64 ui,.bool vl,.int .i64 vn]) (by simp[results,Tryz.results189,go_sem,↓IntWalk.iteOmega]) rfl ⟨rfl,skB⟩
end
end Go.Proofs.YtcekcihijdipoaaGreat
