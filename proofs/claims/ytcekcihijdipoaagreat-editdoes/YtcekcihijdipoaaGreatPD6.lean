/- A pack of texts: VecEq, TxEq, StEq, EdEq, Fresh. -/
import Derived.Laws.StructEq
import Derived.Test.YtcekcihijdipoaaGreatPD5
namespace Go.Proofs.YtcekcihijdipoaaGreat
set_option maxRecDepth 100000
set_option maxHeartbeats 16000000
open Go.RowKit Go.ChangeShapes Go.WideShapes Go.ChangeAt
set_option linter.unusedSimpArgs false
set_option linter.unusedVariables false
attribute [local go_sem] qn qZ A2 zg zz zA t5 qJ zf qO qD t6
section
theorem eq3(n:Nat)(a b c a2 b2 c2:Int)(w:World):(Op.equalIn (n+1+1) 40 (.agg #[.int .i64 a,.int .i64 b,.int .i64 c]) (.agg #[.int .i64 a2,.int .i64 b2,.int .i64 c2])).run Tryz.prog w=.ok (a==a2&&(b==b2&&c==c2)) w:=by
 have u3:=Tryz.underlying3;have a3:=Tryz.isAgg3;have z3:=Tryz.sizeOf3;rw[Op.equalIn];simp only[Sem.run_bind,run_underlying Tryz.underlying40,Result.andThen_ok];simp only[Std.Legacy.Range.forIn_eq_forIn_range',Std.Legacy.Range.size,Nat.sub_zero,Nat.add_sub_cancel,Nat.div_one,List.range'_succ,List.range'_zero,List.forIn_cons,List.forIn_nil];go_simp;by_cases h1:a=a2<;>by_cases h2:b=b2<;>by_cases h3:c=c2<;>simp[h1,h2,h3]
theorem eq9(n:Nat)(a b c d o f g u i a2 b2 c2 d2 o2 f2 g2 u2 i2:Int)(w:World):(Op.equalIn (n+1+1+1) 41 (.agg #[.int .i64 a,.int .i64 b,.int .i64 c,.int .i64 d,.int .i64 o,.int .i64 f,.int .i64 g,.int .i64 u,.int .i64 i]) (.agg #[.int .i64 a2,.int .i64 b2,.int .i64 c2,.int .i64 d2,.int .i64 o2,.int .i64 f2,.int .i64 g2,.int .i64 u2,.int .i64 i2])).run Tryz.prog w=
  .ok ((a==a2&&(b==b2&&c==c2))&&((d==d2&&(o==o2&&f==f2))&&(g==g2&&(u==u2&&i==i2)))) w:=by
 have u3:=Tryz.underlying40;have a3:=Tryz.isAgg40;have z3:=Tryz.sizeOf40;rw[Op.equalIn];simp only[Sem.run_bind,run_underlying Tryz.underlying41,Result.andThen_ok];simp only[Std.Legacy.Range.forIn_eq_forIn_range',Std.Legacy.Range.size,Nat.sub_zero,Nat.add_sub_cancel,Nat.div_one,List.range'_succ,List.range'_zero,List.forIn_cons,List.forIn_nil];have e1:=eq3 n a b c a2 b2 c2;have e2:=eq3 n d o f d2 o2 f2;have e3:=eq3 n g u i g2 u2 i2;generalize (a==a2&&(b==b2&&c==c2))=k1 at*;generalize (d==d2&&(o==o2&&f==f2))=k2 at*;generalize (g==g2&&(u==u2&&i==i2))=k3 at*;go_simp;cases k1<;>cases k2<;>cases k3<;>simp
end
section
theorem colx_50(n:Nat)(a0 a1 a2 a3 b0 b1 b2 b3:Int)(w:World):(Op.equalIn (n+1+1) 50 (.agg #[.int .u8 a0,.int .u8 a1,.int .u8 a2,.int .u8 a3]) (.agg #[.int .u8 b0,.int .u8 b1,.int .u8 b2,.int .u8 b3])).run Tryz.prog w=.ok (a36 a0 a1 a2 a3 b0 b1 b2 b3) w:=by
 have yu:=Tryz.underlying5;have ya:=Tryz.isAgg5;have yz:=Tryz.sizeOf5;rw[Op.equalIn];simp only[Sem.run_bind,run_underlying Tryz.underlying50,Result.andThen_ok];simp only[Std.Legacy.Range.forIn_eq_forIn_range',Std.Legacy.Range.size,Nat.sub_zero,Nat.add_sub_cancel,Nat.div_one,List.range'_succ,List.range'_zero,List.forIn_cons,List.forIn_nil];go_simp;unfold a36;by_cases h0:a0=b0<;>by_cases h1:a1=b1<;>by_cases h2:a2=b2<;>by_cases h3:a3=b3<;>simp[*]
theorem colc_50(a0 a1 a2 a3 b0 b1 b2 b3:Int)(w:World):(Op.equalIn 10000 50 (.agg #[.int .u8 a0,.int .u8 a1,.int .u8 a2,.int .u8 a3]) (.agg #[.int .u8 b0,.int .u8 b1,.int .u8 b2,.int .u8 b3])).run Tryz.prog w=.ok (a36 a0 a1 a2 a3 b0 b1 b2 b3) w:=colx_50 9998 a0 a1 a2 a3 b0 b1 b2 b3 w
theorem cole_50(a0 a1 a2 a3 b0 b1 b2 b3:Int)(w:World):(binOp .eql 50 (.agg #[.int .u8 a0,.int .u8 a1,.int .u8 a2,.int .u8 a3]) (.agg #[.int .u8 b0,.int .u8 b1,.int .u8 b2,.int .u8 b3])).run Tryz.prog w=.ok (.bool (a36 a0 a1 a2 a3 b0 b1 b2 b3)) w:=by
 simp only[binOp];simp[Op.equal,Op.maxDepth,colx_50 9998]
theorem coln_50(a0 a1 a2 a3 b0 b1 b2 b3:Int)(w:World):(binOp .neq 50 (.agg #[.int .u8 a0,.int .u8 a1,.int .u8 a2,.int .u8 a3]) (.agg #[.int .u8 b0,.int .u8 b1,.int .u8 b2,.int .u8 b3])).run Tryz.prog w=.ok (.bool (!(a36 a0 a1 a2 a3 b0 b1 b2 b3))) w:=by
 simp only[binOp];simp[Op.equal,Op.maxDepth,colx_50 9998]
end
section
theorem arr_49(n:Nat)(a0 a1 a2 a3 b0 b1 b2 b3:Int)(w:World):(Op.equalIn (n+1+1) 49 (.agg #[.int .u8 a0,.int .u8 a1,.int .u8 a2,.int .u8 a3]) (.agg #[.int .u8 b0,.int .u8 b1,.int .u8 b2,.int .u8 b3])).run Tryz.prog w=.ok (a0==b0&&(a1==b1&&(a2==b2&&(a3==b3)))) w:=by
 have yu:=Tryz.underlying5;have ya:=Tryz.isAgg5;have yz:=Tryz.sizeOf5;rw[Op.equalIn];simp only[Sem.run_bind,run_underlying Tryz.underlying49,Result.andThen_ok];simp only[Std.Legacy.Range.forIn_eq_forIn_range',Std.Legacy.Range.size,Nat.sub_zero,Nat.add_sub_cancel,Nat.div_one,List.range'_succ,List.range'_zero,List.forIn_cons,List.forIn_nil];go_simp;by_cases h0:a0=b0<;>by_cases h1:a1=b1<;>by_cases h2:a2=b2<;>by_cases h3:a3=b3<;>simp[*]
theorem larr_49(a0 a1 a2 a3 b0 b1 b2 b3:Int)(w:World):(Op.equalIn 10000 49 (.agg #[.int .u8 a0,.int .u8 a1,.int .u8 a2,.int .u8 a3]) (.agg #[.int .u8 b0,.int .u8 b1,.int .u8 b2,.int .u8 b3])).run Tryz.prog w=.ok (a0==b0&&(a1==b1&&(a2==b2&&(a3==b3)))) w:=arr_49 9998 a0 a1 a2 a3 b0 b1 b2 b3 w
theorem arr_50(n:Nat)(a0 a1 a2 a3 b0 b1 b2 b3:Int)(w:World):(Op.equalIn (n+1+1) 50 (.agg #[.int .u8 a0,.int .u8 a1,.int .u8 a2,.int .u8 a3]) (.agg #[.int .u8 b0,.int .u8 b1,.int .u8 b2,.int .u8 b3])).run Tryz.prog w=.ok (a0==b0&&(a1==b1&&(a2==b2&&(a3==b3)))) w:=by
 have yu:=Tryz.underlying5;have ya:=Tryz.isAgg5;have yz:=Tryz.sizeOf5;rw[Op.equalIn];simp only[Sem.run_bind,run_underlying Tryz.underlying50,Result.andThen_ok];simp only[Std.Legacy.Range.forIn_eq_forIn_range',Std.Legacy.Range.size,Nat.sub_zero,Nat.add_sub_cancel,Nat.div_one,List.range'_succ,List.range'_zero,List.forIn_cons,List.forIn_nil];go_simp;by_cases h0:a0=b0<;>by_cases h1:a1=b1<;>by_cases h2:a2=b2<;>by_cases h3:a3=b3<;>simp[*]
theorem larr_50(a0 a1 a2 a3 b0 b1 b2 b3:Int)(w:World):(Op.equalIn 10000 50 (.agg #[.int .u8 a0,.int .u8 a1,.int .u8 a2,.int .u8 a3]) (.agg #[.int .u8 b0,.int .u8 b1,.int .u8 b2,.int .u8 b3])).run Tryz.prog w=.ok (a0==b0&&(a1==b1&&(a2==b2&&(a3==b3)))) w:=arr_50 9998 a0 a1 a2 a3 b0 b1 b2 b3 w
theorem arr_48(n:Nat)(a0 a1 a2 a3 a4 b0 b1 b2 b3 b4:Int)(w:World):(Op.equalIn (n+1+1) 48 (.agg #[.int .u8 a0,.int .u8 a1,.int .u8 a2,.int .u8 a3,.int .u8 a4]) (.agg #[.int .u8 b0,.int .u8 b1,.int .u8 b2,.int .u8 b3,.int .u8 b4])).run Tryz.prog w=.ok (a0==b0&&(a1==b1&&(a2==b2&&(a3==b3&&(a4==b4))))) w:=by
 have yu:=Tryz.underlying5;have ya:=Tryz.isAgg5;have yz:=Tryz.sizeOf5;rw[Op.equalIn];simp only[Sem.run_bind,run_underlying Tryz.underlying48,Result.andThen_ok];simp only[Std.Legacy.Range.forIn_eq_forIn_range',Std.Legacy.Range.size,Nat.sub_zero,Nat.add_sub_cancel,Nat.div_one,List.range'_succ,List.range'_zero,List.forIn_cons,List.forIn_nil];go_simp;by_cases h0:a0=b0<;>by_cases h1:a1=b1<;>by_cases h2:a2=b2<;>by_cases h3:a3=b3<;>by_cases h4:a4=b4<;>simp[*]
theorem larr_48(a0 a1 a2 a3 a4 b0 b1 b2 b3 b4:Int)(w:World):(Op.equalIn 10000 48 (.agg #[.int .u8 a0,.int .u8 a1,.int .u8 a2,.int .u8 a3,.int .u8 a4]) (.agg #[.int .u8 b0,.int .u8 b1,.int .u8 b2,.int .u8 b3,.int .u8 b4])).run Tryz.prog w=.ok (a0==b0&&(a1==b1&&(a2==b2&&(a3==b3&&(a4==b4))))) w:=arr_48 9998 a0 a1 a2 a3 a4 b0 b1 b2 b3 b4 w
def eq4 (a0 a1 a2 a3 b0 b1 b2 b3:Int):Bool:=a0==b0&&(a1==b1&&(a2==b2&&a3==b3))
theorem a3f(a0 a1 a2 a3:Int):eq4 a0 a1 a2 a3 a0 a1 a2 a3=true:=by simp[eq4]
def eq5 (a0 a1 a2 a3 a4 b0 b1 b2 b3 b4:Bool):Bool:=a0==b0&&(a1==b1&&(a2==b2&&(a3==b3&&a4==b4)))
theorem a24(a0 a1 a2 a3 a4:Bool):eq5 a0 a1 a2 a3 a4 a0 a1 a2 a3 a4=true:=by simp[eq5]
theorem col_49(a0 a1 a2 a3 b0 b1 b2 b3:Int)(w:World):(Op.equalIn 10000 49 (.agg #[.int .u8 a0,.int .u8 a1,.int .u8 a2,.int .u8 a3]) (.agg #[.int .u8 b0,.int .u8 b1,.int .u8 b2,.int .u8 b3])).run Tryz.prog w=.ok (eq4 a0 a1 a2 a3 b0 b1 b2 b3) w:=arr_49 9998 a0 a1 a2 a3 b0 b1 b2 b3 w
theorem col_50(a0 a1 a2 a3 b0 b1 b2 b3:Int)(w:World):(Op.equalIn 10000 50 (.agg #[.int .u8 a0,.int .u8 a1,.int .u8 a2,.int .u8 a3]) (.agg #[.int .u8 b0,.int .u8 b1,.int .u8 b2,.int .u8 b3])).run Tryz.prog w=.ok (eq4 a0 a1 a2 a3 b0 b1 b2 b3) w:=arr_50 9998 a0 a1 a2 a3 b0 b1 b2 b3 w
theorem col9_49(a0 a1 a2 a3 b0 b1 b2 b3:Int)(w:World):(Op.equalIn 9999 49 (.agg #[.int .u8 a0,.int .u8 a1,.int .u8 a2,.int .u8 a3]) (.agg #[.int .u8 b0,.int .u8 b1,.int .u8 b2,.int .u8 b3])).run Tryz.prog w=.ok (eq4 a0 a1 a2 a3 b0 b1 b2 b3) w:=arr_49 9997 a0 a1 a2 a3 b0 b1 b2 b3 w
theorem col9_50(a0 a1 a2 a3 b0 b1 b2 b3:Int)(w:World):(Op.equalIn 9999 50 (.agg #[.int .u8 a0,.int .u8 a1,.int .u8 a2,.int .u8 a3]) (.agg #[.int .u8 b0,.int .u8 b1,.int .u8 b2,.int .u8 b3])).run Tryz.prog w=.ok (eq4 a0 a1 a2 a3 b0 b1 b2 b3) w:=arr_50 9997 a0 a1 a2 a3 b0 b1 b2 b3 w
theorem col8_49(a0 a1 a2 a3 b0 b1 b2 b3:Int)(w:World):(Op.equalIn 9998 49 (.agg #[.int .u8 a0,.int .u8 a1,.int .u8 a2,.int .u8 a3]) (.agg #[.int .u8 b0,.int .u8 b1,.int .u8 b2,.int .u8 b3])).run Tryz.prog w=.ok (eq4 a0 a1 a2 a3 b0 b1 b2 b3) w:=arr_49 9996 a0 a1 a2 a3 b0 b1 b2 b3 w
theorem col8_50(a0 a1 a2 a3 b0 b1 b2 b3:Int)(w:World):(Op.equalIn 9998 50 (.agg #[.int .u8 a0,.int .u8 a1,.int .u8 a2,.int .u8 a3]) (.agg #[.int .u8 b0,.int .u8 b1,.int .u8 b2,.int .u8 b3])).run Tryz.prog w=.ok (eq4 a0 a1 a2 a3 b0 b1 b2 b3) w:=arr_50 9996 a0 a1 a2 a3 b0 b1 b2 b3 w
theorem a8v{J V:Lk}(h:eqL J V=false):eq4 J.r J.g J.b J.a V.r V.g V.b V.a=false∨(eq4 J.r J.g J.b J.a V.r V.g V.b V.a=true∧(¬J.tx=V.tx∨(J.tx=V.tx∧(¬J.cu=V.cu∨(J.cu=V.cu∧(¬J.bi=V.bi∨(J.bi=V.bi∧(¬J.bl=V.bl∨(J.bl=V.bl∧¬J.bn=V.bn))))))))):=by
 rw[eqL,show eqC J V=eq4 J.r J.g J.b J.a V.r V.g V.b V.a from rfl]at h;cases hc:eq4 J.r J.g J.b J.a V.r V.g V.b V.a
 ·exact .inl rfl
 ·rw[hc]at h;right;refine⟨rfl,?_⟩;simp at h;by_cases h1:J.tx=V.tx<;>by_cases h2:J.cu=V.cu<;>by_cases h3:J.bi=V.bi<;>by_cases h4:J.bl=V.bl<;>simp_all
end
section
def eqv (a b:V3):Bool:=a.x==b.x&&(a.y==b.y&&a.z==b.z)
def a8H (a b:M9):Bool:=eqv a.a b.a&&(eqv a.b b.b&&eqv a.c b.c)
def ap7 (a b:Mt):Bool:=a8H a.m b.m&&eqv a.t b.t
def eqh (a0 a1 b0 b1:Int):Bool:=a0==b0&&a1==b1
def a57 (a b:Lk):Bool:=a36 a.r a.g a.b a.a b.r b.g b.b b.a&&(a.tx==b.tx&&(a.cu==b.cu&&(a.bi==b.bi&&(a.bl==b.bl&&a.bn==b.bn))))
def a5X (a0 a1 a2 a3 a4 b0 b1 b2 b3 b4:Int):Bool:=a0==b0&&(a1==b1&&(a2==b2&&(a3==b3&&a4==b4)))
def a3V (a b:Sy):Bool:=a5X a.s0 a.s1 a.s2 a.s3 a.s4 b.s0 b.s1 b.s2 b.s3 b.s4&&a57 a.l b.l
theorem az8(a:V3):eqv a a=true:=by simp[eqv]
theorem a0w(a:Mt):ap7 a a=true:=by simp[ap7,a8H,az8]
theorem a5z(a:Lk):a57 a a=true:=by simp[a57,ao7]
theorem a0r(a:Sy):a3V a a=true:=by simp[a3V,a5X,a5z]
theorem ac3{a b:V3}(h:eqv a b=true):a=b:=by
 obtain⟨a0,a1,a2⟩:=a;obtain⟨b0,b1,b2⟩:=b;simp only[eqv,Bool.and_eq_true,beq_iff_eq]at h;obtain⟨rfl,rfl,rfl⟩:=h;rfl
theorem a7V{a b:Mt}(h:ap7 a b=true):a=b:=by
 obtain⟨⟨a0,a1,a2⟩,a3⟩:=a;obtain⟨⟨b0,b1,b2⟩,b3⟩:=b;simp only[ap7,a8H,Bool.and_eq_true]at h;obtain⟨⟨h0,h1,h2⟩,h3⟩:=h;rw[ac3 h0,ac3 h1,ac3 h2,ac3 h3]
theorem a7N{a b:Sy}(h:a3V a b=true):a=b:=by
 obtain⟨a0,a1,a2,a3,a4,⟨l0,l1,l2,l3,l4,l5,l6,l7,l8⟩⟩:=a;obtain⟨b0,b1,b2,b3,b4,⟨k0,k1,k2,k3,k4,k5,k6,k7,k8⟩⟩:=b;simp only[a3V,a5X,a57,a36,Bool.and_eq_true,beq_iff_eq]at h;obtain⟨⟨rfl,rfl,rfl,rfl,rfl⟩,⟨rfl,rfl,rfl,rfl⟩,rfl,rfl,rfl,rfl,rfl⟩:=h;rfl
theorem eqVi_43(n:Nat)(a0 a1 a2:Int)(b0 b1 b2:Int)(w:World):(Op.equalIn (n+1+1) 43 (.agg #[.int .i64 a0,.int .i64 a1,.int .i64 a2]) (.agg #[.int .i64 b0,.int .i64 b1,.int .i64 b2])).run Tryz.prog w=.ok (eqv ⟨a0,a1,a2⟩ ⟨b0,b1,b2⟩) w:=by
 have yu:=Tryz.underlying3;have ya:=Tryz.isAgg3;have yz:=Tryz.sizeOf3;rw[run_equalIn_struct _ _ _ _ _ kr0 kr0];go_simp;simp only[eqv];by_cases h0:a0=b0<;>by_cases h1:a1=b1<;>by_cases h2:a2=b2<;>simp[h0,h1,h2]
theorem eqVc_43(a0 a1 a2:Int)(b0 b1 b2:Int)(w:World):(Op.equalIn 10000 43 (.agg #[.int .i64 a0,.int .i64 a1,.int .i64 a2]) (.agg #[.int .i64 b0,.int .i64 b1,.int .i64 b2])).run Tryz.prog w=.ok (eqv ⟨a0,a1,a2⟩ ⟨b0,b1,b2⟩) w:=eqVi_43 9998 a0 a1 a2 b0 b1 b2 w
theorem X7{a0 a1 a2:Int}{b0 b1 b2:Int}{b:Bool}(h:(eqv ⟨a0,a1,a2⟩ ⟨b0,b1,b2⟩)=b):∀w:World,(Op.equalIn 10000 43 (.agg #[.int .i64 a0,.int .i64 a1,.int .i64 a2]) (.agg #[.int .i64 b0,.int .i64 b1,.int .i64 b2])).run Tryz.prog w=.ok b w:=fun w=>h▸eqVc_43 a0 a1 a2 b0 b1 b2 w
theorem eqVe_43(a0 a1 a2:Int)(b0 b1 b2:Int)(w:World):(binOp .eql 43 (.agg #[.int .i64 a0,.int .i64 a1,.int .i64 a2]) (.agg #[.int .i64 b0,.int .i64 b1,.int .i64 b2])).run Tryz.prog w=.ok (.bool (eqv ⟨a0,a1,a2⟩ ⟨b0,b1,b2⟩)) w:=by
 simp only[binOp];simp[Op.equal,Op.maxDepth,eqVc_43]
theorem eqVn_43(a0 a1 a2:Int)(b0 b1 b2:Int)(w:World):(binOp .neq 43 (.agg #[.int .i64 a0,.int .i64 a1,.int .i64 a2]) (.agg #[.int .i64 b0,.int .i64 b1,.int .i64 b2])).run Tryz.prog w=.ok (.bool (!(eqv ⟨a0,a1,a2⟩ ⟨b0,b1,b2⟩))) w:=by
 simp only[binOp];simp[Op.equal,Op.maxDepth,eqVc_43]
theorem eqHi_32(n:Nat)(a0 a1:Int)(b0 b1:Int)(w:World):(Op.equalIn (n+1+1) 32 (.agg #[.int .i64 a0,.int .i64 a1]) (.agg #[.int .i64 b0,.int .i64 b1])).run Tryz.prog w=.ok (eqh a0 a1 b0 b1) w:=by
 have yu:=Tryz.underlying3;have ya:=Tryz.isAgg3;have yz:=Tryz.sizeOf3;rw[run_equalIn_struct _ _ _ _ _ kr0 kr0];go_simp;simp only[eqh];by_cases h0:a0=b0<;>by_cases h1:a1=b1<;>simp[h0,h1]
theorem eqHc_32(a0 a1:Int)(b0 b1:Int)(w:World):(Op.equalIn 10000 32 (.agg #[.int .i64 a0,.int .i64 a1]) (.agg #[.int .i64 b0,.int .i64 b1])).run Tryz.prog w=.ok (eqh a0 a1 b0 b1) w:=eqHi_32 9998 a0 a1 b0 b1 w
theorem aq9{a0 a1:Int}{b0 b1:Int}{b:Bool}(h:(eqh a0 a1 b0 b1)=b):∀w:World,(Op.equalIn 10000 32 (.agg #[.int .i64 a0,.int .i64 a1]) (.agg #[.int .i64 b0,.int .i64 b1])).run Tryz.prog w=.ok b w:=fun w=>h▸eqHc_32 a0 a1 b0 b1 w
theorem eqHe_32(a0 a1:Int)(b0 b1:Int)(w:World):(binOp .eql 32 (.agg #[.int .i64 a0,.int .i64 a1]) (.agg #[.int .i64 b0,.int .i64 b1])).run Tryz.prog w=.ok (.bool (eqh a0 a1 b0 b1)) w:=by
 simp only[binOp];simp[Op.equal,Op.maxDepth,eqHc_32]
theorem eqHn_32(a0 a1:Int)(b0 b1:Int)(w:World):(binOp .neq 32 (.agg #[.int .i64 a0,.int .i64 a1]) (.agg #[.int .i64 b0,.int .i64 b1])).run Tryz.prog w=.ok (.bool (!(eqh a0 a1 b0 b1))) w:=by
 simp only[binOp];simp[Op.equal,Op.maxDepth,eqHc_32]
theorem eqMi_45(n:Nat)(a0 a1 a2 a3 a4 a5 a6 a7 a8 a9 a10 a11:Int)(b0 b1 b2 b3 b4 b5 b6 b7 b8 b9 b10 b11:Int)(w:World):(Op.equalIn (n+1+1+1+1) 45 (.agg #[.int .i64 a0,.int .i64 a1,.int .i64 a2,.int .i64 a3,.int .i64 a4,.int .i64 a5,.int .i64 a6,.int .i64 a7,.int .i64 a8,.int .i64 a9,.int .i64 a10,.int .i64 a11]) (.agg #[.int .i64 b0,.int .i64 b1,.int .i64 b2,.int .i64 b3,.int .i64 b4,.int .i64 b5,.int .i64 b6,.int .i64 b7,.int .i64 b8,.int .i64 b9,.int .i64 b10,.int .i64 b11])).run Tryz.prog w=.ok (ap7 ⟨⟨⟨a0,a1,a2⟩,⟨a3,a4,a5⟩,⟨a6,a7,a8⟩⟩,⟨a9,a10,a11⟩⟩ ⟨⟨⟨b0,b1,b2⟩,⟨b3,b4,b5⟩,⟨b6,b7,b8⟩⟩,⟨b9,b10,b11⟩⟩) w:=by
 rw[run_equalIn_struct _ _ _ _ _ kr0 kr0];have e1:=eq9 n a0 a1 a2 a3 a4 a5 a6 a7 a8 b0 b1 b2 b3 b4 b5 b6 b7 b8;have e2:=eqVi_43 (n+1) a9 a10 a11 b9 b10 b11;simp only[ap7];rw[show a8H ⟨⟨a0,a1,a2⟩,⟨a3,a4,a5⟩,⟨a6,a7,a8⟩⟩ ⟨⟨b0,b1,b2⟩,⟨b3,b4,b5⟩,⟨b6,b7,b8⟩⟩=_ from rfl];generalize eqv ⟨a9,a10,a11⟩ ⟨b9,b10,b11⟩=k2 at*;simp only[a8H,eqv];generalize ((a0==b0&&(a1==b1&&a2==b2))&&((a3==b3&&(a4==b4&&a5==b5))&&(a6==b6&&(a7==b7&&a8==b8))))=k1 at*;go_simp;cases k1<;>cases k2<;>simp
theorem eqMc_45(a0 a1 a2 a3 a4 a5 a6 a7 a8 a9 a10 a11:Int)(b0 b1 b2 b3 b4 b5 b6 b7 b8 b9 b10 b11:Int)(w:World):(Op.equalIn 10000 45 (.agg #[.int .i64 a0,.int .i64 a1,.int .i64 a2,.int .i64 a3,.int .i64 a4,.int .i64 a5,.int .i64 a6,.int .i64 a7,.int .i64 a8,.int .i64 a9,.int .i64 a10,.int .i64 a11]) (.agg #[.int .i64 b0,.int .i64 b1,.int .i64 b2,.int .i64 b3,.int .i64 b4,.int .i64 b5,.int .i64 b6,.int .i64 b7,.int .i64 b8,.int .i64 b9,.int .i64 b10,.int .i64 b11])).run Tryz.prog w=.ok (ap7 ⟨⟨⟨a0,a1,a2⟩,⟨a3,a4,a5⟩,⟨a6,a7,a8⟩⟩,⟨a9,a10,a11⟩⟩ ⟨⟨⟨b0,b1,b2⟩,⟨b3,b4,b5⟩,⟨b6,b7,b8⟩⟩,⟨b9,b10,b11⟩⟩) w:=eqMi_45 9996 a0 a1 a2 a3 a4 a5 a6 a7 a8 a9 a10 a11 b0 b1 b2 b3 b4 b5 b6 b7 b8 b9 b10 b11 w
theorem Y0{a0 a1 a2 a3 a4 a5 a6 a7 a8 a9 a10 a11:Int}{b0 b1 b2 b3 b4 b5 b6 b7 b8 b9 b10 b11:Int}{b:Bool}(h:(ap7 ⟨⟨⟨a0,a1,a2⟩,⟨a3,a4,a5⟩,⟨a6,a7,a8⟩⟩,⟨a9,a10,a11⟩⟩ ⟨⟨⟨b0,b1,b2⟩,⟨b3,b4,b5⟩,⟨b6,b7,b8⟩⟩,⟨b9,b10,b11⟩⟩)=b):∀w:World,(Op.equalIn 10000 45 (.agg #[.int .i64 a0,.int .i64 a1,.int .i64 a2,.int .i64 a3,.int .i64 a4,.int .i64 a5,.int .i64 a6,.int .i64 a7,.int .i64 a8,.int .i64 a9,.int .i64 a10,.int .i64 a11]) (.agg #[.int .i64 b0,.int .i64 b1,.int .i64 b2,.int .i64 b3,.int .i64 b4,.int .i64 b5,.int .i64 b6,.int .i64 b7,.int .i64 b8,.int .i64 b9,.int .i64 b10,.int .i64 b11])).run Tryz.prog w=.ok b w:=fun w=>h▸eqMc_45 a0 a1 a2 a3 a4 a5 a6 a7 a8 a9 a10 a11 b0 b1 b2 b3 b4 b5 b6 b7 b8 b9 b10 b11 w
theorem eqMe_45(a0 a1 a2 a3 a4 a5 a6 a7 a8 a9 a10 a11:Int)(b0 b1 b2 b3 b4 b5 b6 b7 b8 b9 b10 b11:Int)(w:World):(binOp .eql 45 (.agg #[.int .i64 a0,.int .i64 a1,.int .i64 a2,.int .i64 a3,.int .i64 a4,.int .i64 a5,.int .i64 a6,.int .i64 a7,.int .i64 a8,.int .i64 a9,.int .i64 a10,.int .i64 a11]) (.agg #[.int .i64 b0,.int .i64 b1,.int .i64 b2,.int .i64 b3,.int .i64 b4,.int .i64 b5,.int .i64 b6,.int .i64 b7,.int .i64 b8,.int .i64 b9,.int .i64 b10,.int .i64 b11])).run Tryz.prog w=.ok (.bool (ap7 ⟨⟨⟨a0,a1,a2⟩,⟨a3,a4,a5⟩,⟨a6,a7,a8⟩⟩,⟨a9,a10,a11⟩⟩ ⟨⟨⟨b0,b1,b2⟩,⟨b3,b4,b5⟩,⟨b6,b7,b8⟩⟩,⟨b9,b10,b11⟩⟩)) w:=by
 simp only[binOp];simp[Op.equal,Op.maxDepth,eqMc_45]
theorem eqMn_45(a0 a1 a2 a3 a4 a5 a6 a7 a8 a9 a10 a11:Int)(b0 b1 b2 b3 b4 b5 b6 b7 b8 b9 b10 b11:Int)(w:World):(binOp .neq 45 (.agg #[.int .i64 a0,.int .i64 a1,.int .i64 a2,.int .i64 a3,.int .i64 a4,.int .i64 a5,.int .i64 a6,.int .i64 a7,.int .i64 a8,.int .i64 a9,.int .i64 a10,.int .i64 a11]) (.agg #[.int .i64 b0,.int .i64 b1,.int .i64 b2,.int .i64 b3,.int .i64 b4,.int .i64 b5,.int .i64 b6,.int .i64 b7,.int .i64 b8,.int .i64 b9,.int .i64 b10,.int .i64 b11])).run Tryz.prog w=.ok (.bool (!(ap7 ⟨⟨⟨a0,a1,a2⟩,⟨a3,a4,a5⟩,⟨a6,a7,a8⟩⟩,⟨a9,a10,a11⟩⟩ ⟨⟨⟨b0,b1,b2⟩,⟨b3,b4,b5⟩,⟨b6,b7,b8⟩⟩,⟨b9,b10,b11⟩⟩))) w:=by
 simp only[binOp];simp[Op.equal,Op.maxDepth,eqMc_45]
theorem eqLki_52(n:Nat)(a0:Int)(a1:Int)(a2:Int)(a3:Int)(a4:Int)(a5:Int)(a6:Int)(a7:Bool)(a8:Int)(b0:Int)(b1:Int)(b2:Int)(b3:Int)(b4:Int)(b5:Int)(b6:Int)(b7:Bool)(b8:Int)(w:World):(Op.equalIn (n+1+1+1) 52 (.agg #[.int .u8 a0,.int .u8 a1,.int .u8 a2,.int .u8 a3,.int .i64 a4,.int .u8 a5,.int .i64 a6,.bool a7,.int .i64 a8]) (.agg #[.int .u8 b0,.int .u8 b1,.int .u8 b2,.int .u8 b3,.int .i64 b4,.int .u8 b5,.int .i64 b6,.bool b7,.int .i64 b8])).run Tryz.prog w=.ok (a57 ⟨a0,a1,a2,a3,a4,a5,a6,a7,a8⟩ ⟨b0,b1,b2,b3,b4,b5,b6,b7,b8⟩) w:=by
 have yu:=Tryz.underlying3;have ya:=Tryz.isAgg3;have yz:=Tryz.sizeOf3;have yu8:=Tryz.underlying5;have ybb:=Tryz.underlying4;rw[run_equalIn_struct _ _ _ _ _ kr0 kr0];have e1:=colx_50 n a0 a1 a2 a3 b0 b1 b2 b3;simp only[a57];generalize a36 a0 a1 a2 a3 b0 b1 b2 b3=k1 at*;go_simp;cases k1<;>by_cases h4:a4=b4<;>by_cases h5:a5=b5<;>by_cases h6:a6=b6<;>by_cases h7:a7=b7<;>by_cases h8:a8=b8<;>simp[h4,h5,h6,h7,h8]
theorem eqLkc_52(a0:Int)(a1:Int)(a2:Int)(a3:Int)(a4:Int)(a5:Int)(a6:Int)(a7:Bool)(a8:Int)(b0:Int)(b1:Int)(b2:Int)(b3:Int)(b4:Int)(b5:Int)(b6:Int)(b7:Bool)(b8:Int)(w:World):(Op.equalIn 10000 52 (.agg #[.int .u8 a0,.int .u8 a1,.int .u8 a2,.int .u8 a3,.int .i64 a4,.int .u8 a5,.int .i64 a6,.bool a7,.int .i64 a8]) (.agg #[.int .u8 b0,.int .u8 b1,.int .u8 b2,.int .u8 b3,.int .i64 b4,.int .u8 b5,.int .i64 b6,.bool b7,.int .i64 b8])).run Tryz.prog w=.ok (a57 ⟨a0,a1,a2,a3,a4,a5,a6,a7,a8⟩ ⟨b0,b1,b2,b3,b4,b5,b6,b7,b8⟩) w:=eqLki_52 9997 a0 a1 a2 a3 a4 a5 a6 a7 a8 b0 b1 b2 b3 b4 b5 b6 b7 b8 w
theorem eqLke_52(a0:Int)(a1:Int)(a2:Int)(a3:Int)(a4:Int)(a5:Int)(a6:Int)(a7:Bool)(a8:Int)(b0:Int)(b1:Int)(b2:Int)(b3:Int)(b4:Int)(b5:Int)(b6:Int)(b7:Bool)(b8:Int)(w:World):(binOp .eql 52 (.agg #[.int .u8 a0,.int .u8 a1,.int .u8 a2,.int .u8 a3,.int .i64 a4,.int .u8 a5,.int .i64 a6,.bool a7,.int .i64 a8]) (.agg #[.int .u8 b0,.int .u8 b1,.int .u8 b2,.int .u8 b3,.int .i64 b4,.int .u8 b5,.int .i64 b6,.bool b7,.int .i64 b8])).run Tryz.prog w=.ok (.bool (a57 ⟨a0,a1,a2,a3,a4,a5,a6,a7,a8⟩ ⟨b0,b1,b2,b3,b4,b5,b6,b7,b8⟩)) w:=by
 simp only[binOp];simp[Op.equal,Op.maxDepth,eqLkc_52]
theorem eqLkn_52(a0:Int)(a1:Int)(a2:Int)(a3:Int)(a4:Int)(a5:Int)(a6:Int)(a7:Bool)(a8:Int)(b0:Int)(b1:Int)(b2:Int)(b3:Int)(b4:Int)(b5:Int)(b6:Int)(b7:Bool)(b8:Int)(w:World):(binOp .neq 52 (.agg #[.int .u8 a0,.int .u8 a1,.int .u8 a2,.int .u8 a3,.int .i64 a4,.int .u8 a5,.int .i64 a6,.bool a7,.int .i64 a8]) (.agg #[.int .u8 b0,.int .u8 b1,.int .u8 b2,.int .u8 b3,.int .i64 b4,.int .u8 b5,.int .i64 b6,.bool b7,.int .i64 b8])).run Tryz.prog w=.ok (.bool (!(a57 ⟨a0,a1,a2,a3,a4,a5,a6,a7,a8⟩ ⟨b0,b1,b2,b3,b4,b5,b6,b7,b8⟩))) w:=by
 simp only[binOp];simp[Op.equal,Op.maxDepth,eqLkc_52]
theorem eqSyi_54(n:Nat)(a0:Int)(a1:Int)(a2:Int)(a3:Int)(a4:Int)(a5:Int)(a6:Int)(a7:Int)(a8:Int)(a9:Int)(a10:Int)(a11:Int)(a12:Bool)(a13:Int)(b0:Int)(b1:Int)(b2:Int)(b3:Int)(b4:Int)(b5:Int)(b6:Int)(b7:Int)(b8:Int)(b9:Int)(b10:Int)(b11:Int)(b12:Bool)(b13:Int)(w:World):(Op.equalIn (n+1+1+1+1) 54 (.agg #[.int .u8 a0,.int .u8 a1,.int .u8 a2,.int .u8 a3,.int .u8 a4,.int .u8 a5,.int .u8 a6,.int .u8 a7,.int .u8 a8,.int .i64 a9,.int .u8 a10,.int .i64 a11,.bool a12,.int .i64 a13]) (.agg #[.int .u8 b0,.int .u8 b1,.int .u8 b2,.int .u8 b3,.int .u8 b4,.int .u8 b5,.int .u8 b6,.int .u8 b7,.int .u8 b8,.int .i64 b9,.int .u8 b10,.int .i64 b11,.bool b12,.int .i64 b13])).run Tryz.prog w=.ok (a3V ⟨a0,a1,a2,a3,a4,⟨a5,a6,a7,a8,a9,a10,a11,a12,a13⟩⟩ ⟨b0,b1,b2,b3,b4,⟨b5,b6,b7,b8,b9,b10,b11,b12,b13⟩⟩) w:=by
 rw[run_equalIn_struct _ _ _ _ _ kr0 kr0];have e1:=arr_48 (n+1) a0 a1 a2 a3 a4 b0 b1 b2 b3 b4;have e2:=eqLki_52 n a5 a6 a7 a8 a9 a10 a11 a12 a13 b5 b6 b7 b8 b9 b10 b11 b12 b13;simp only[a3V,a5X];generalize a57 ⟨a5,a6,a7,a8,a9,a10,a11,a12,a13⟩ ⟨b5,b6,b7,b8,b9,b10,b11,b12,b13⟩=k2 at*;generalize (a0==b0&&(a1==b1&&(a2==b2&&(a3==b3&&a4==b4))))=k1 at*;go_simp;cases k1<;>cases k2<;>simp
theorem eqSyc_54(a0:Int)(a1:Int)(a2:Int)(a3:Int)(a4:Int)(a5:Int)(a6:Int)(a7:Int)(a8:Int)(a9:Int)(a10:Int)(a11:Int)(a12:Bool)(a13:Int)(b0:Int)(b1:Int)(b2:Int)(b3:Int)(b4:Int)(b5:Int)(b6:Int)(b7:Int)(b8:Int)(b9:Int)(b10:Int)(b11:Int)(b12:Bool)(b13:Int)(w:World):(Op.equalIn 10000 54 (.agg #[.int .u8 a0,.int .u8 a1,.int .u8 a2,.int .u8 a3,.int .u8 a4,.int .u8 a5,.int .u8 a6,.int .u8 a7,.int .u8 a8,.int .i64 a9,.int .u8 a10,.int .i64 a11,.bool a12,.int .i64 a13]) (.agg #[.int .u8 b0,.int .u8 b1,.int .u8 b2,.int .u8 b3,.int .u8 b4,.int .u8 b5,.int .u8 b6,.int .u8 b7,.int .u8 b8,.int .i64 b9,.int .u8 b10,.int .i64 b11,.bool b12,.int .i64 b13])).run Tryz.prog w=.ok (a3V ⟨a0,a1,a2,a3,a4,⟨a5,a6,a7,a8,a9,a10,a11,a12,a13⟩⟩ ⟨b0,b1,b2,b3,b4,⟨b5,b6,b7,b8,b9,b10,b11,b12,b13⟩⟩) w:=eqSyi_54 9996 a0 a1 a2 a3 a4 a5 a6 a7 a8 a9 a10 a11 a12 a13 b0 b1 b2 b3 b4 b5 b6 b7 b8 b9 b10 b11 b12 b13 w
theorem aw4{a0:Int}{a1:Int}{a2:Int}{a3:Int}{a4:Int}{a5:Int}{a6:Int}{a7:Int}{a8:Int}{a9:Int}{a10:Int}{a11:Int}{a12:Bool}{a13:Int}{b0:Int}{b1:Int}{b2:Int}{b3:Int}{b4:Int}{b5:Int}{b6:Int}{b7:Int}{b8:Int}{b9:Int}{b10:Int}{b11:Int}{b12:Bool}{b13:Int}{b:Bool}(h:(a3V ⟨a0,a1,a2,a3,a4,⟨a5,a6,a7,a8,a9,a10,a11,a12,a13⟩⟩ ⟨b0,b1,b2,b3,b4,⟨b5,b6,b7,b8,b9,b10,b11,b12,b13⟩⟩)=b):∀w:World,(Op.equalIn 10000 54 (.agg #[.int .u8 a0,.int .u8 a1,.int .u8 a2,.int .u8 a3,.int .u8 a4,.int .u8 a5,.int .u8 a6,.int .u8 a7,.int .u8 a8,.int .i64 a9,.int .u8 a10,.int .i64 a11,.bool a12,.int .i64 a13]) (.agg #[.int .u8 b0,.int .u8 b1,.int .u8 b2,.int .u8 b3,.int .u8 b4,.int .u8 b5,.int .u8 b6,.int .u8 b7,.int .u8 b8,.int .i64 b9,.int .u8 b10,.int .i64 b11,.bool b12,.int .i64 b13])).run Tryz.prog w=.ok b w:=fun w=>h▸eqSyc_54 a0 a1 a2 a3 a4 a5 a6 a7 a8 a9 a10 a11 a12 a13 b0 b1 b2 b3 b4 b5 b6 b7 b8 b9 b10 b11 b12 b13 w
theorem eqSye_54(a0:Int)(a1:Int)(a2:Int)(a3:Int)(a4:Int)(a5:Int)(a6:Int)(a7:Int)(a8:Int)(a9:Int)(a10:Int)(a11:Int)(a12:Bool)(a13:Int)(b0:Int)(b1:Int)(b2:Int)(b3:Int)(b4:Int)(b5:Int)(b6:Int)(b7:Int)(b8:Int)(b9:Int)(b10:Int)(b11:Int)(b12:Bool)(b13:Int)(w:World):(binOp .eql 54 (.agg #[.int .u8 a0,.int .u8 a1,.int .u8 a2,.int .u8 a3,.int .u8 a4,.int .u8 a5,.int .u8 a6,.int .u8 a7,.int .u8 a8,.int .i64 a9,.int .u8 a10,.int .i64 a11,.bool a12,.int .i64 a13]) (.agg #[.int .u8 b0,.int .u8 b1,.int .u8 b2,.int .u8 b3,.int .u8 b4,.int .u8 b5,.int .u8 b6,.int .u8 b7,.int .u8 b8,.int .i64 b9,.int .u8 b10,.int .i64 b11,.bool b12,.int .i64 b13])).run Tryz.prog w=.ok (.bool (a3V ⟨a0,a1,a2,a3,a4,⟨a5,a6,a7,a8,a9,a10,a11,a12,a13⟩⟩ ⟨b0,b1,b2,b3,b4,⟨b5,b6,b7,b8,b9,b10,b11,b12,b13⟩⟩)) w:=by
 simp only[binOp];simp[Op.equal,Op.maxDepth,eqSyc_54]
theorem eqSyn_54(a0:Int)(a1:Int)(a2:Int)(a3:Int)(a4:Int)(a5:Int)(a6:Int)(a7:Int)(a8:Int)(a9:Int)(a10:Int)(a11:Int)(a12:Bool)(a13:Int)(b0:Int)(b1:Int)(b2:Int)(b3:Int)(b4:Int)(b5:Int)(b6:Int)(b7:Int)(b8:Int)(b9:Int)(b10:Int)(b11:Int)(b12:Bool)(b13:Int)(w:World):(binOp .neq 54 (.agg #[.int .u8 a0,.int .u8 a1,.int .u8 a2,.int .u8 a3,.int .u8 a4,.int .u8 a5,.int .u8 a6,.int .u8 a7,.int .u8 a8,.int .i64 a9,.int .u8 a10,.int .i64 a11,.bool a12,.int .i64 a13]) (.agg #[.int .u8 b0,.int .u8 b1,.int .u8 b2,.int .u8 b3,.int .u8 b4,.int .u8 b5,.int .u8 b6,.int .u8 b7,.int .u8 b8,.int .i64 b9,.int .u8 b10,.int .i64 b11,.bool b12,.int .i64 b13])).run Tryz.prog w=.ok (.bool (!(a3V ⟨a0,a1,a2,a3,a4,⟨a5,a6,a7,a8,a9,a10,a11,a12,a13⟩⟩ ⟨b0,b1,b2,b3,b4,⟨b5,b6,b7,b8,b9,b10,b11,b12,b13⟩⟩))) w:=by
 simp only[binOp];simp[Op.equal,Op.maxDepth,eqSyc_54]
end
section
open Go.RowKit
section
variable {P:Program} {md:Region.Mode} {l:List Oper} {m n:Nat}
def aj2 (l:List Oper) (i:Nat):Bool:=match l[i]? with
 |some o=>o.guard.isNone&&(match o.op with|.extract _ _=>true|_=>false)
 |none=>false
theorem a0t{i:Nat}(h:aj2 l i=true):∃o t k,l[i]?=some o∧o.guard=none∧o.op=.extract t k:=by
 unfold aj2 at h;split at h
 ·rename_i o ho;simp only[Bool.and_eq_true]at h;cases hop:o.op<;>simp[hop]at h;exact⟨o,_,_,ho,h,hop⟩
 ·cases h
theorem a07{C:World→Prop}{o:Oper}{a:Act}{w0:World}{v:Value}{t:Operand}{k:Nat}(ho:o.op=.extract t k)(h:o.quietAt P a C w0 v):∀w,(execOp a.eval o).run P w=.ok (.value v) w:=by
 intro w;unfold Oper.quietAt execOp at h;unfold execOp;simp only[ho]at h ⊢;unfold Instr.extract at h ⊢;cases ht:a.eval t<;>simp only[ht]at h ⊢
 case tuple vs=>
  cases hv:vs[k]? with
  |none=>simp[hv,stuck,Oper.quietUpon]at h
  |some u=>
   simp only[hv]at h ⊢;simp[Oper.quietUpon]at h;simp[h]
 all_goals simp[stuck,Oper.quietUpon]at h
def a5d (md:Region.Mode) (l:List Oper) (m:Nat):Bool:=
 (List.range l.length).all fun t=>decide (t<m)||(List.range m).all fun i=>aj2 l i||N5 md l.toArray m 2 t i
def a7W (md:Region.Mode) (l:List Oper) (m:Nat):Bool:=
 (List.range m).all fun p=>!aj2 l p||(List.range l.length).all fun j=>j==p||(match l[p]?,l[j]? with
  |some op,some oj=>Region.waitsFor md l.toArray p j||(oj.after.any (fun e=>Region.binds md e&&e.on==p)||op.apart l.toArray oj)
  |_,_=>true)
theorem a3q(h:a5d md l m=true){t i:Nat}(ht:m≤t)(htl:t<l.length)(hi:i<m)(hl:aj2 l i=false):N5 md l.toArray m 2 t i=true:=by
 have h1:=List.all_eq_true.1 h t (List.mem_range.2 htl);simp only[Bool.or_eq_true,decide_eq_true_eq]at h1;rcases h1 with h1|h1
 ·omega
 ·have h2:=List.all_eq_true.1 h1 i (List.mem_range.2 hi)
  simpa [hl]using h2
theorem a4x(h:a7W md l m=true){p:Nat}{op:Oper}(hp:p<m)(hl:aj2 l p=true)(hop:l[p]?=some op)(j:Nat)(oj:Oper)(hoj:l[j]?=some oj)(hne:j≠p)
  (hno:∀e∈oj.after,Region.binds md e=true→e.on≠p) (hnw:Region.waitsFor md l.toArray p j=false):op.apart l.toArray oj=true:=by
 have h1:=List.all_eq_true.1 h p (List.mem_range.2 hp);simp only[hl,Bool.not_true,Bool.false_or]at h1;have hjl:j<l.length:=(List.getElem?_eq_some_iff.1 hoj).1;have h2:=List.all_eq_true.1 h1 j (List.mem_range.2 hjl);simp only[hop,hoj,hnw,Bool.false_or,Bool.or_eq_true]at h2;rcases h2 with h2|h2|h2
 ·simp[hne]at h2
 ·obtain⟨e,he,hb⟩:=Array.any_eq_true'.1 h2;simp only[Bool.and_eq_true,beq_iff_eq]at hb;exact absurd hb.2 (hno e he hb.1)
 ·exact h2
theorem a63{Q:Exit→Act→World→Prop}(Inv:Nat→Array Bool→Act→World→Prop)
  (hb:aq7 md l m=true) (hw:a5d md l m=true) (hn:m≤l.length) (hfree:a7W md l m=true) (hsel:Region.noSelect l.toArray=true) (hQ:∀c a x v w,Q (.panic c) (a.put x v) w→Q (.panic c) a w)
  (h2:∀f L a w i,L.size=m→Inv (f+1) L a w→i<m→aj2 l i=true→i∈Region.ready md (l.take m).toArray L→
   ∃o v,l[i]?=some o∧Yields P l.toArray o v a∧Inv f (L.setIfInBounds i true) (a.put o.dst v) w)
  (hs:Region.seqB md l.toArray (l.length - m) m (Array.replicate m true++Array.replicate (l.length - m) false)=true)
  (h0:∀a w,Inv 0 (Array.replicate m true) a w→wpList P l.toArray Q (l.drop m) a w)
  (h1:∀f L a w i,L.size=m→Inv (f+1) L a w→i<m→i∈Region.ready md (l.take m).toArray L→wpOp P l.toArray Q i (Inv f (L.setIfInBounds i true)) a w):
  ∀(f:Nat) (L:Array Bool) (a:Act) (w:World),L.size=m→L.count false=f→a56 md l.toArray m L→Inv f L a w→
   wpAny P md l.toArray Q (f+(l.length - m)) (L++Array.replicate (l.length - m) false) a w:=by
 intro f
 induction f with
 |zero=>
  intro L a w hL hc hS h;have e:L=Array.replicate m true:=by
   apply Array.ext (by simpa using hL);intro i h1 h2;simp only[Array.getElem_replicate];cases hv:L[i]with
   |true=>rfl
   |false=>exact absurd (hv▸Array.getElem_mem h1) (Array.count_eq_zero.1 hc)
  subst e;rw[Nat.zero_add];have hd:(l.drop m).length=l.length - m:=by simp
  have:=wpAny_of_seq (P:=P) (md:=md) (ops:=l.toArray) (Q':=Q) (l.drop m) m (Array.replicate m true++Array.replicate (l.length - m) false) a w (fun j=>by simp[List.getElem?_drop]) (by rw[hd];exact hs) (h0 a w h);rwa[hd]at this
 |succ f ih=>
  intro L a w hL hc hS h;rw[show f+1+(l.length - m)=(f+(l.length - m))+1 by omega];have hex:∃i,L.getD i true=false:=by
   have:0<L.count false:=om0;obtain⟨i,h1,h2⟩:=Array.mem_iff_getElem.1 (Array.count_pos_iff.1 this);exact⟨i,by simp[h1,h2]⟩
  obtain⟨u,hu⟩:=hex;obtain⟨k,hk⟩:=at3 (md:=md) hb hn L hL u hu;have hkn:k<m:=by
   obtain⟨h1,o,ho,_⟩:=mem_ready.1 hk;have:=(Array.getElem?_eq_some_iff.1 ho).1;simp at this;omega
  have back:k∈Region.ready md l.toArray (L++Array.replicate (l.length - m) false):=by
   obtain⟨h1,o,ho,h2⟩:=mem_ready.1 hk;rw[M0 k hkn]at ho;refine mem_ready.2 ⟨by rw[Qx _ _ _ _ om0];exact h1,o,ho,fun e he hbd=>?_⟩;have hlt:=(T6 hb hkn (by simpa using ho)).1 e he hbd;rw[Qx _ _ _ _ om0];exact h2 e he hbd
  have count:∀i,i<m→L.getD i true=false→(L.setIfInBounds i true).count false=f:=by
   intro i hi hun;have hiL:i<L.size:=om0;have hLi:L[i]=false:=by simpa [hiL]using hun
   rw[Array.setIfInBounds_def,dif_pos hiL,Array.count_set];simp[hLi,hc]
  have shut:∀i,i<m→i∈Region.ready md (l.take m).toArray L→a56 md l.toArray m (L.setIfInBounds i true):=by
   intro i hin hr j k hj hlj hwt;by_cases e:i=j
   ·subst e;obtain⟨_,o,ho,h2⟩:=mem_ready.1 hr;obtain⟨o',ho',e,he,hbd,hon⟩:=Region.waitsFor_spec hwt;rw[M0 i hin]at ho;have:o'=o:=Option.some.inj (ho'.symm.trans ho);subst this;have h3:=h2 e he hbd;rw[hon]at h3;exact P5 _ _ _ h3
   ·exact P5 _ _ _ (hS j k hj (QH _ _ _ e hlj) hwt)
  cases hl:aj2 l k with
  |true=>
   obtain⟨o,v,ho,hy,hi⟩:=h2 f L a w k hL h hkn hl hk;refine wpAny_first (P:=P) (md:=md) (ops:=l.toArray) (i:=k) (oi:=o) (v:=v) (by simpa using ho) (fun j oj cs b hj=>Region.noSelect_spec hsel j oj cs b hj) (fun c a' w' h'=>hQ c a' _ _ w' h')
    (f+(l.length - m)) (L++Array.replicate (l.length - m) false) a w (fun j oj hoj hne hun hno=>a4x hfree hkn hl ho j oj (by simpa using hoj) hne hno (by
     cases hwt:Region.waitsFor md l.toArray k j with
     |false=>rfl
     |true=>
      obtain⟨o',ho',e,he,hbd,hon⟩:=Region.waitsFor_spec hwt;obtain⟨_,o2,ho2,hall⟩:=mem_ready.1 back;obtain rfl:o'=o2:=Option.some.inj (ho'.symm.trans ho2);have h7:=hall e he hbd;rw[hon,getD_both hun]at h7;cases h7)) back hy ?_
   rw[ax7 _ _ _ om0];exact ih _ _ w (by simpa using hL) (count k hkn (mem_ready.1 hk).1) (shut k hkn hk) hi
  |false=>
   have part:∀i,i∈Region.ready md l.toArray (L++Array.replicate (l.length - m) false)→i<m∧i∈Region.ready md (l.take m).toArray L:=by
    intro i hi;obtain⟨h1,o,ho,h2⟩:=mem_ready.1 hi;have hil:i<l.length:=by
     have:=(Array.getElem?_eq_some_iff.1 ho).1
     simpa using this
    by_cases hin:i<m
    ·refine⟨hin,mem_ready.2 ⟨by rw[Qx _ _ _ _ om0]at h1;exact h1,o,by rw[M0 i hin];exact ho,fun e he hbd=>?_⟩⟩;exact az2 _ _ _ (h2 e he hbd)
    ·have h3:=J3 hS 2 i k (fun j hj=>by
      obtain⟨o',ho',e,he,hbd,hon⟩:=Region.waitsFor_spec hj;have:o'=o:=Option.some.inj (ho'.symm.trans ho);subst this;have h3:=h2 e he hbd;rw[hon]at h3;exact az2 _ _ _ h3) (a3q hw om0 hil hkn hl)
     rw[getD_both (mem_ready.1 hk).1]at h3;cases h3
   refine⟨fun h0=>(by rw[h0]at back;cases back),fun i hi=>?_⟩;obtain⟨hin,hr⟩:=part i hi;refine wpOp_mono (fun a' w' h'=>?_) (h1 f L a w i hL h hin hr);rw[ax7 _ _ _ om0];exact ih _ a' w' (by simpa using hL) (count i hin (mem_ready.1 hr).1) (shut i hin hr) h'
variable {ops:Array Oper} {C:World→Prop}
theorem a7H(a:Act)(x:Option Tmp)(v:Value)(d:Nat)(h:x≠some d):(a.put x v).tmps[d]?=a.tmps[d]?:=by
 cases x with
 |none=>rfl
 |some k=>
  have:k≠d:=fun e=>h (by rw[e])
  simp[Act.put,this]
theorem a7u(a:Act)(v:Value)(d:Nat)(h:d<a.tmps.size):(a.put (some d) v).tmps[d]?=some v:=by
 simp[Act.put,h]
theorem a2G(a:Act)(x:Option Tmp)(v:Value):(a.put x v).tmps.size=a.tmps.size:=by
 cases x<;>simp[Act.put]
theorem kept{aF:Act}:∀(f:Nat) (L:Array Bool) (a:Act) (d:Nat),(∀(j:Nat) (o:Oper),ops[j]?=some o→L.getD j true=false→o.dst≠some d)→
  wpAnyQ P md ops C (fun a'=>a'=aF) f L a→aF.tmps[d]?=a.tmps[d]?
 |0,_,_,_,_,h=>by rw[←h.2]
 |f+1,L,a,d,hd,h=>by
  cases hr:Region.ready md ops L with
  |nil=>rw[←h.1 hr]
  |cons i r=>
   have hi:i∈Region.ready md ops L:=by rw[hr];exact List.mem_cons_self
   obtain⟨hun,o,ho,_⟩:=mem_ready.1 hi;obtain⟨v,_,hk⟩:=yieldsIn_of_qOp ho (h.2 i hi);have hne:=hd i o ho hun;rw[kept f _ _ d (fun j o' ho' hj=>?_) hk,a7H _ _ _ _ hne];by_cases e:i=j
   ·subst e;exact(Option.some.inj (ho.symm.trans ho'))▸hne
   ·refine hd j o' ho' ?_;rwa[getD_set_ne true e]at hj
theorem a7w{i d:Nat}{v:Value}{K K':Act→Prop}{a:Act}(hsel:Region.noSelect ops=true)
  (hno:∀(j:Nat) (o:Oper),ops[j]?=some o→d ∉ o.looksAt ops∧o.dst≠some d) (hK:∀a',K a'→K' (a'.put (some d) v)) (h:qOp P ops C i K a):qOp P ops C i K' (a.put (some d) v):=by
 unfold qOp at*;cases ho:ops[i]? with
 |none=>simp only[ho]at h ⊢;exact hK _ h
 |some o=>
  obtain⟨n1,n2⟩:=hno i o ho;simp only[ho]at h ⊢;rw[wanted_put o a (some d) v (fun d' e=>by cases e;exact n1)];split
  ·rename_i hw;simp only[hw,if_true]at h;obtain⟨u,hu,hn⟩:=h;refine⟨u,fun w hw'=>?_,?_⟩
   ·have:=hu w hw';unfold Oper.quietAt at*;rwa[execOp_put (ops:=ops) o (fun cs b=>Region.noSelect_spec hsel i o cs b ho) a (some d) v (fun d' e=>by cases e;exact n1)]
   ·rw[Act.put_comm a v u (fun d' e=>by cases e;exact n2)];exact hK _ hn
  ·rename_i hw;simp only[hw]at h;rw[Act.put_comm a v undef (fun d' e=>by cases e;exact n2)];exact hK _ h
theorem a9N{d:Nat}{v:Value}{Q:Act→Prop}(hsel:Region.noSelect ops=true)(hno:∀(j:Nat) (o:Oper),ops[j]?=some o→d ∉ o.looksAt ops∧o.dst≠some d):
  ∀(f:Nat) (L:Array Bool) (a:Act),wpAnyQ P md ops C Q f L a→wpAnyQ P md ops C (fun a'=>∃a0,Q a0∧a'=a0.put (some d) v) f L (a.put (some d) v)
 |0,_,a,h=>⟨h.1,a,h.2,rfl⟩
 |f+1,_,a,h=>⟨fun h0=>⟨a,h.1 h0,rfl⟩,fun i hi=>a7w hsel hno (fun a' h'=>a9N hsel hno f _ a' h') (h.2 i hi)⟩
def a92 (ops:Array Oper) (N d:Nat):Bool:=
 (List.range ops.size).all fun j=>match ops[j]? with
  |some o=> !(o.looksAt ops).contains d&&o.dst !=some d&&(match o.dst with|some k=>decide (k<N)|none=>true)&&
    (List.range ops.size).all fun i=>i==j||(match ops[i]? with|some o'=>o'.dst.isNone||o'.dst !=o.dst|none=>true)
  |none=>true
theorem ai7{ops:Array Oper}{N d:Nat}(h:a92 ops N d=true){j:Nat}{o:Oper}(ho:ops[j]?=some o):
  d ∉ o.looksAt ops∧o.dst≠some d∧(∀k,o.dst=some k→k<N)∧∀i o',ops[i]?=some o'→i≠j→∀k,o.dst=some k→o'.dst≠some k:=by
 have hj:j<ops.size:=(Array.getElem?_eq_some_iff.1 ho).1;have h1:=List.all_eq_true.1 h j (List.mem_range.2 hj);simp only[ho,Bool.and_eq_true]at h1;obtain⟨⟨⟨a1,a2⟩,a3⟩,a4⟩:=h1;refine⟨by simpa using a1,by simpa using a2,fun k hk=>by rw[hk]at a3;simpa using a3,fun i o' ho' hij k hk=>?_⟩;have hi:i<ops.size:=(Array.getElem?_eq_some_iff.1 ho').1;have h2:=List.all_eq_true.1 a4 i (List.mem_range.2 hi);simp only[ho']at h2;intro e;simp[hij,hk,e]at h2
def a7q (l:List Oper) (n N d:Nat):Bool:=
 decide (n<l.length)&&Region.lexB .any (l.take n).toArray&&aq7 .any l n&&aq7 .any l (n+1)&&a5d .any l (n+1)&&a7W .any l (n+1)&&Region.noSelect l.toArray&&
  Region.seqB .any l.toArray (l.length - (n+1)) (n+1) (Array.replicate (n+1) true++Array.replicate (l.length - (n+1)) false)&&
  a92 (l.take n).toArray N d&&(match l[n]? with|some al=>al.guard.isNone&&al.dst==some d|none=>false)
theorem a0Q(L:Array Bool)(b:Bool)(j:Nat)(x:Bool)(h:j<L.size):(L.push b).getD j x=L.getD j x:=by
 simp only[Array.getD_eq_getD_getElem?,Array.getElem?_push];rw[if_neg om0]
theorem ai5(L:Array Bool)(b:Bool)(j:Nat)(h:j<L.size):(L.push b).setIfInBounds j true=(L.setIfInBounds j true).push b:=by
 apply Array.ext_getElem?;intro k;simp only[Array.getElem?_setIfInBounds,Array.getElem?_push,Array.size_push,Array.size_setIfInBounds];by_cases hk:j=k
 ·subst hk;have h1:j≠L.size:=om0;have h2:j<L.size+1:=om0;simp[h,h1,h2]
 ·simp[hk]
theorem a0h(L:Array Bool)(b:Bool):(L.push b).setIfInBounds L.size true=L.push true:=by
 apply Array.ext_getElem?;intro k;simp only[Array.getElem?_setIfInBounds,Array.getElem?_push,Array.size_push];by_cases hk:L.size=k
 ·subst hk;simp
 ·have:¬k=L.size:=fun e=>hk e.symm
  simp[hk,this]
theorem Zr(hb:aq7 md l n=true)(L:Array Bool)(hL:L.size=n)(b:Bool){i:Nat}(hi:i<n)(h:i∈Region.ready md (l.take (n+1)).toArray (L.push b)):i∈Region.ready md (l.take n).toArray L:=by
 obtain⟨h1,o,ho,h2⟩:=mem_ready.1 h;rw[M0 i om0]at ho;refine mem_ready.2 ⟨by rwa[a0Q _ _ _ _ om0]at h1,o,by rw[M0 i hi];exact ho,fun e he hbd=>?_⟩;have hlt:=(T6 hb hi (by simpa using ho)).1 e he hbd;have:=h2 e he hbd;rwa[a0Q _ _ _ _ om0]at this
theorem a0n{id:Nat}{Q:Exit→Act→World→Prop}{a:Act}{w:World}{al:Oper}(n d:Nat)(o:Obj)(hm:P.follows .mixedOrders=true)(hB:a7q l n a.tmps.size d=true)(hal1:l[n]?=some al)(hQ:∀c a x v w,Q (.panic c) (a.put x v) w→Q (.panic c) a w)
  (hal:∀(a:Act) (w:World),(execOp a.eval al).run P w=.ok (.value (.pointer (some ⟨w.heap.size,0,none⟩))) (w.alloc o))
  (h:∃aF:Act,(∀x0,wpQuiet P (l.take n).toArray (fun w'=>∃x,w'=plus (plus w x0) x) (fun a'=>a'=aF) (l.take n) a)∧
   ∀x1 x2,wpList P l.toArray Q (l.drop (n+1)) (aF.put (some d) (.pointer (some ⟨w.heap.size+(blocks x1).size,0,none⟩))) (plus ((plus w x1).alloc o) x2)):
  (Code.region id l.toArray true).wp P Q a w:=by
 obtain⟨aF,h1,h2⟩:=h;simp only[a7q,Bool.and_eq_true,decide_eq_true_eq]at hB;obtain⟨⟨⟨⟨⟨⟨⟨⟨⟨hn,hlex⟩,hbn⟩,hb⟩,hw⟩,hfree⟩,hsel⟩,hs⟩,hd⟩,halloc⟩:=hB;simp only[Region.lexB,Bool.and_eq_true]at hlex;have hsz:(l.take n).toArray.size=n:=by simp;omega
 have hlen:(l.take n).length=n:=by simp;omega
 have hno:∀(j:Nat) (oj:Oper),(l.take n).toArray[j]?=some oj→d ∉ oj.looksAt (l.take n).toArray∧oj.dst≠some d:=fun j oj hj=>⟨(ai7 hd hj).1,(ai7 hd hj).2.1⟩
 obtain⟨halg,hald⟩:al.guard=none∧al.dst=some d:=by simpa [hal1]using halloc
 generalize hN:a.tmps.size=N at hd
 let H:=(l.take n).toArray
 let Inv:Nat→Array Bool→Act→World→Prop:=fun f L a w'=>
  (∃LH g,f=g+1∧L=LH.push false∧LH.size=n∧(∃x,w'=plus w x)∧a.tmps.size=N∧∀x0,wpAnyQ P .any H (fun w'=>∃x,w'=plus (plus w x0) x) (fun a'=>a'=aF) g LH a)∨
  (∃LH x1,L=LH.push true∧LH.size=n∧(∃x,w'=plus ((plus w x1).alloc o) x)∧
   wpAnyQ P .any H (fun w'=>∃x,w'=plus ((plus w x1).alloc o) x) (fun a'=>∃a0,a0=aF∧a'=a0.put (some d) (.pointer (some ⟨w.heap.size+(blocks x1).size,0,none⟩))) f LH a)
 -- one of the first n: its value is one, whatever has grown
 have one:∀(LH:Array Bool) (g:Nat) (a':Act) (i:Nat),LH.size=n→a'.tmps.size=N→(∀x0,wpAnyQ P .any H (fun w'=>∃x,w'=plus (plus w x0) x) (fun a'=>a'=aF) g LH a')→i∈Region.ready .any H LH→
   ∃g' oi v,g=g'+1∧H[i]?=some oi∧YieldsIn P H (fun w'=>∃x,w'=plus w x) oi v a'∧∀x0,wpAnyQ P .any H (fun w'=>∃x,w'=plus (plus w x0) x) (fun a'=>a'=aF) g' (LH.setIfInBounds i true) (a'.put oi.dst v):=by
  intro LH g a' i hLH hsa hq hr';obtain⟨hun,oi,hoi,_⟩:=mem_ready.1 hr';cases g with
  |zero=>
   have:=(hq []).1;rw[this]at hr';cases hr'
  |succ g=>
   have hg0:=fun x0=>(hq x0).2 i hr'
   have e0:plus w [⟨#[],w.drawn⟩]=w:=by simp[plus,blocks,draws]
   obtain⟨v,hy,hk⟩:=yieldsIn_of_qOp hoi (hg0 [⟨#[],w.drawn⟩]);rw[e0]at hy;refine⟨g,oi,v,rfl,hoi,hy,fun x0=>?_⟩;obtain⟨v0,_,hk0⟩:=yieldsIn_of_qOp hoi (hg0 x0);cases hdd:oi.dst with
   |none=>rw[hdd]at hk0;exact hk0
   |some k=>
    have hb1:=(ai7 hd hoi).2.2.1 k hdd;have fresh:∀(j:Nat) (oj:Oper),H[j]?=some oj→(LH.setIfInBounds i true).getD j true=false→oj.dst≠some k:=by
     intro j oj hoj hj;have hne:j≠i:=by
      intro e;subst e;have:j<LH.size:=by
       have h6:=(Array.getElem?_eq_some_iff.1 hoj).1;rw[hsz]at h6;omega
      simp[this]at hj
     exact(ai7 hd hoi).2.2.2 j oj hoj hne k hdd
    have e1:=kept _ _ _ k fresh hk;have e2:=kept _ _ _ k fresh hk0;rw[hdd,a7u _ _ _ (Nat.lt_of_lt_of_eq hb1 hsa.symm)]at e1 e2;rw[e1]at e2;rw[Option.some.inj e2];rw[hdd]at hk0;exact hk0
 have pure:∀(C:World→Prop) (i:Nat) (oi:Oper) (v:Value) (a':Act) (w0:World),i<n→aj2 l i=true→H[i]?=some oi→C w0→YieldsIn P H C oi v a'→l[i]?=some oi∧Yields P l.toArray oi v a':=by
  intro C i oi v a' w0 hin hl hoi hC hy;obtain⟨o',t,k,ho',hg,hop⟩:=a0t hl;have hoi':l.toArray[i]?=some oi:=by rw[←M0 i hin];exact hoi
  have hoi2:l[i]?=some oi:=by simpa using hoi'
  obtain rfl:o'=oi:=Option.some.inj (ho'.symm.trans hoi2);refine⟨hoi2,.inl ⟨by simp[Region.wanted,hg],?_⟩⟩;rcases hy with⟨_,hy⟩|⟨hy,_⟩
  ·exact a07 hop (hy w0 hC)
  ·simp[Region.wanted,hg]at hy
 have last:aj2 l n=false:=by
  cases h:aj2 l n with
  |false=>rfl
  |true=>
   obtain⟨o',t,k,ho',_,hop⟩:=a0t h;obtain rfl:o'=al:=Option.some.inj (ho'.symm.trans hal1);have h5:=hal a w;unfold execOp at h5;simp only[hop]at h5;unfold Instr.extract at h5;have hne:w.alloc o≠w:=fun e=>by have:=congrArg (fun w=>w.heap.size) e;simp at this
   cases ht:a.eval t<;>simp[ht,stuck]at h5;rename_i vs;cases hv:vs[k]?<;>simp[hv]at h5;exact absurd h5.2.symm hne
 have key:=a63 (P:=P) (md:=.any) (l:=l) (m:=n+1) (Q:=Q) Inv hb hw om0 hfree hsel hQ
  (fun f L a' w' i hL h hi hl hr=>by
   have hin:i<n:=by
    rcases Nat.lt_or_ge i n with h|h
    ·exact h
    ·obtain rfl:i=n:=om0;rw[last]at hl;cases hl
   rcases h with⟨LH,g,hg,rfl,hLH,⟨x,rfl⟩,hsa,hq⟩|⟨LH,x1,rfl,hLH,⟨x,rfl⟩,hq⟩
   ·obtain rfl:g=f:=om0;have hr':=Zr (md:=.any) hbn LH hLH false hin hr;obtain⟨g',oi,v,rfl,hoi,hy,same⟩:=one LH g a' i hLH hsa hq hr';obtain⟨p1,p2⟩:=pure _ i oi v a' (plus w x) hin hl hoi ⟨x,rfl⟩ hy;exact⟨oi,v,p1,p2,.inl ⟨LH.setIfInBounds i true,g',rfl,ai5 _ _ _ om0,by simpa using hLH,⟨x,rfl⟩,by rw[a2G];exact hsa,same⟩⟩
   ·have hr':=Zr (md:=.any) hbn LH hLH true hin hr;obtain⟨_,oi,hoi,_⟩:=mem_ready.1 hr';obtain⟨v,hy,hk⟩:=yieldsIn_of_qOp hoi (hq.2 i hr');obtain⟨p1,p2⟩:=pure _ i oi v a' _ hin hl hoi ⟨x,rfl⟩ hy;exact⟨oi,v,p1,p2,.inr ⟨LH.setIfInBounds i true,x1,ai5 _ _ _ om0,by simpa using hLH,⟨x,rfl⟩,hk⟩⟩)
  hs
  (fun a' w' h=>by
   rcases h with⟨LH,g,hg,_⟩|⟨LH,x1,_,_,⟨x,rfl⟩,hq⟩
   ·cases hg
   ·obtain⟨_,a0,rfl,rfl⟩:=hq;exact h2 x1 x)
  (fun f L a' w' i hL h hi hr=>by
   rcases h with⟨LH,g,hg,rfl,hLH,⟨x,rfl⟩,hsa,hq⟩|⟨LH,x1,rfl,hLH,⟨x,rfl⟩,hq⟩
   ·obtain rfl:g=f:=om0;by_cases hin:i<n
    ·have hr':=Zr (md:=.any) hbn LH hLH false hin hr;obtain⟨g',oi,v,rfl,hoi,hy,same⟩:=one LH g a' i hLH hsa hq hr';have hop:qOp P H (fun w'=>∃x,w'=plus w x) i (fun a''=>a''=a'.put oi.dst v) a':=hy.qOp hoi rfl;refine wpOp_of_qOp (C:=fun w'=>∃x,w'=plus w x) ⟨x,rfl⟩ (fun a'' w'' hC hk'=>?_) (a0e hbn hin hop);subst hk';exact .inl ⟨LH.setIfInBounds i true,g',rfl,ai5 _ _ _ om0,by simpa using hLH,hC,by rw[a2G];exact hsa,same⟩
    ·-- the variable is a91
     obtain rfl:i=n:=om0;unfold wpOp;have e1:l.toArray[i]?=some al:=by simpa using hal1
     simp only[e1];have hwant:Region.wanted al (yielded l.toArray a'.tmps)=true:=by simp[Region.wanted,halg]
     rw[if_pos hwant];refine .inl ?_;unfold Oper.wp;rw[hal a' (plus w x)];simp only[Oper.upon];refine .inr ⟨LH,x,by rw[←hLH];exact a0h _ _,hLH,j5 _,?_⟩;rw[hald,qn];have hb0:∃x0,(plus w x).alloc o=plus w x0:=qE ⟨x,rfl⟩;obtain⟨x0,hx0⟩:=hb0;have:=hq x0;rw[←hx0]at this;exact a9N hlex.1 hno _ _ _ this
   ·have hin:i<n:=by
     rcases Nat.lt_or_ge i n with h|h
     ·exact h
     ·obtain rfl:i=n:=om0;have:=(mem_ready.1 hr).1;simp[←hLH]at this
    have hr':=Zr (md:=.any) hbn LH hLH true hin hr;refine wpOp_of_qOp (C:=fun w'=>∃x,w'=plus ((plus w x1).alloc o) x) ⟨x,rfl⟩ (fun a'' w'' hC hk'=>?_) (a0e hbn hin (hq.2 i hr'));exact .inr ⟨LH.setIfInBounds i true,x1,ai5 _ _ _ om0,by simpa using hLH,hC,hk'⟩)
 refine wp_region_any hm ?_;have start:Inv (n+1) (Array.replicate (n+1) false) a {w with drawn:=w.drawn+1}:=by
  refine .inl ⟨Array.replicate n false,n,rfl,by rw[Array.replicate_succ],by simp,⟨[⟨#[],w.drawn+1⟩],by simp[plus,blocks,draws]⟩,hN,fun x0=>?_⟩;have:=wpAnyQ_lex (P:=P) (md:=.any) (C:=fun w'=>∃x,w'=plus (plus w x0) x) (Q:=fun a'=>a'=aF) hlex.1 (l.take n) 0
   (Array.replicate n false) a (by simp) (by rw[hlen];have:=hlex.2;rwa[hsz]at this) (h1 x0)
  rwa[hlen]at this
 have h3:=key (n+1) (Array.replicate (n+1) false) a {w with drawn:=w.drawn+1} (by simp) (by simp) (fun j i _ hj _=>by by_cases h:j<n+1<;>simp[h]at hj) start;have e1:n+1+(l.length - (n+1))=l.toArray.size:=by simp;omega
 have e2:Array.replicate (n+1) false++Array.replicate (l.length - (n+1)) false=Array.replicate l.toArray.size false:=by
  rw[Array.replicate_append_replicate,e1]
 rw[e1,e2]at h3;exact h3
end
end
end Go.Proofs.YtcekcihijdipoaaGreat
