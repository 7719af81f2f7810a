/- A pack of texts: St1, St6, Vec2, Vec4, Vec6, Ed3, Ed3k1. -/
import Derived.Deep.DeepCutAuto
import Derived.Test.YtcekcihijdipoaaGreatPD7
namespace Go.Proofs.YtcekcihijdipoaaGreat
set_option maxRecDepth 100000
set_option maxHeartbeats 16000000
open Go.RowKit Go.ChangeShapes Go.WideShapes Go.ChangeAt
set_option linter.unusedSimpArgs false
set_option linter.unusedVariables false
attribute [local go_sem] qn qZ A2 zg zz zA t5 qJ zf qO qD t6
section
theorem aC5{n:Int}(h:U8 n):bits .and .u8 n 1=n % 2:=by
 have e:∀k:Fin 256,bits .and .u8 ((k.val:Nat):Int) 1=((k.val:Nat):Int) % 2:=by decide+kernel
 obtain⟨h0,h1⟩:=h;have:=e ⟨n.toNat,om0⟩
 simpa [Int.toNat_of_nonneg h0]using this
theorem a4F(ur ug ub ua ut uc ui:Int)(ul:Bool)(un:Int):(ut< -1∧QR ⟨ur,ug,ub,ua,ut,uc,ui,ul,un⟩=false)∨(-1≤ut∧16≤ut∧QR ⟨ur,ug,ub,ua,ut,uc,ui,ul,un⟩=false)∨(-1≤ut∧ut<16∧2<uc∧QR ⟨ur,ug,ub,ua,ut,uc,ui,ul,un⟩=false)∨(-1≤ut∧ut<16∧uc≤2∧ui< -1024∧QR ⟨ur,ug,ub,ua,ut,uc,ui,ul,un⟩=false)∨
  (-1≤ut∧ut<16∧uc≤2∧ -1024≤ui∧1024<ui∧QR ⟨ur,ug,ub,ua,ut,uc,ui,ul,un⟩=false)∨(-1≤ut∧ut<16∧uc≤2∧ -1024≤ui∧ui≤1024∧un<0∧QR ⟨ur,ug,ub,ua,ut,uc,ui,ul,un⟩=false)∨
  (-1≤ut∧ut<16∧uc≤2∧ -1024≤ui∧ui≤1024∧0≤un∧15<un∧QR ⟨ur,ug,ub,ua,ut,uc,ui,ul,un⟩=false)∨(-1≤ut∧ut<16∧uc≤2∧ -1024≤ui∧ui≤1024∧0≤un∧un≤15∧QR ⟨ur,ug,ub,ua,ut,uc,ui,ul,un⟩=true):=by
 have e:QR ⟨ur,ug,ub,ua,ut,uc,ui,ul,un⟩=(decide (-1≤ut)&&(decide (ut<16)&&(decide (uc≤2)&&(decide (-1024≤ui)&&(decide (ui≤1024)&&(decide (0≤un)&&decide (un≤15))))))):=rfl;rw[e];clear e;by_cases h0:ut< -1
 ·exact .inl ⟨h0,by rw[show decide (-1≤ut)=false from decide_eq_false om0];rfl⟩
 have g0: -1≤ut:=om0;by_cases h1:16≤ut
 ·exact .inr (.inl ⟨g0,h1,by rw[show decide (-1≤ut)=true from decide_eq_true g0,show decide (ut<16)=false from decide_eq_false om0];rfl⟩)
 have g1:ut<16:=om0;by_cases h2:2<uc
 ·exact .inr (.inr (.inl ⟨g0,g1,h2,by rw[show decide (-1≤ut)=true from decide_eq_true g0,show decide (ut<16)=true from decide_eq_true g1,show decide (uc≤2)=false from decide_eq_false om0];rfl⟩))
 have g2:uc≤2:=om0;by_cases h3:ui< -1024
 ·exact .inr (.inr (.inr (.inl ⟨g0,g1,g2,h3,by rw[show decide (-1≤ut)=true from decide_eq_true g0,show decide (ut<16)=true from decide_eq_true g1,show decide (uc≤2)=true from decide_eq_true g2,show decide (-1024≤ui)=false from decide_eq_false om0];rfl⟩)))
 have g3: -1024≤ui:=om0;by_cases h4:1024<ui
 ·exact .inr (.inr (.inr (.inr (.inl ⟨g0,g1,g2,g3,h4,by rw[show decide (-1≤ut)=true from decide_eq_true g0,show decide (ut<16)=true from decide_eq_true g1,show decide (uc≤2)=true from decide_eq_true g2,show decide (-1024≤ui)=true from decide_eq_true g3,show decide (ui≤1024)=false from decide_eq_false om0];rfl⟩))))
 have g4:ui≤1024:=om0;by_cases h5:un<0
 ·exact .inr (.inr (.inr (.inr (.inr (.inl ⟨g0,g1,g2,g3,g4,h5,by rw[show decide (-1≤ut)=true from decide_eq_true g0,show decide (ut<16)=true from decide_eq_true g1,show decide (uc≤2)=true from decide_eq_true g2,show decide (-1024≤ui)=true from decide_eq_true g3,show decide (ui≤1024)=true from decide_eq_true g4,show decide (0≤un)=false from decide_eq_false om0];rfl⟩)))))
 have g5:0≤un:=om0;by_cases h6:15<un
 ·exact .inr (.inr (.inr (.inr (.inr (.inr (.inl ⟨g0,g1,g2,g3,g4,g5,h6,by rw[show decide (-1≤ut)=true from decide_eq_true g0,show decide (ut<16)=true from decide_eq_true g1,show decide (uc≤2)=true from decide_eq_true g2,show decide (-1024≤ui)=true from decide_eq_true g3,show decide (ui≤1024)=true from decide_eq_true g4,show decide (0≤un)=true from decide_eq_true g5,show decide (un≤15)=false from decide_eq_false om0];rfl⟩))))))
 have g6:un≤15:=om0;exact .inr (.inr (.inr (.inr (.inr (.inr (.inr (⟨g0,g1,g2,g3,g4,g5,g6,by rw[show decide (-1≤ut)=true from decide_eq_true g0,show decide (ut<16)=true from decide_eq_true g1,show decide (uc≤2)=true from decide_eq_true g2,show decide (-1024≤ui)=true from decide_eq_true g3,show decide (ui≤1024)=true from decide_eq_true g4,show decide (0≤un)=true from decide_eq_true g5,show decide (un≤15)=true from decide_eq_true g6];rfl⟩)))))))
theorem ae7(ur ug ub ua ut uc ui:Int)(ul:Bool)(un:Int)(w:World):
  Calls Tryz.prog 145 #[.agg #[.int .u8 ur,.int .u8 ug,.int .u8 ub,.int .u8 ua,.int .i64 ut,.int .u8 uc,.int .i64 ui,.bool ul,.int .i64 un]] w fun e w'=>e=.returned (.int .i64 (af3 ⟨ur,ug,ub,ua,ut,uc,ui,ul,un⟩))∧Below w.heap.size w w':=by
 rcases a4F ur ug ub ua ut uc ui ul un with⟨h1,hL⟩|⟨h1,h2,hL⟩|⟨h1,h2,h3,hL⟩|⟨h1,h2,h3,h4,hL⟩|⟨h1,h2,h3,h4,h5,hL⟩|⟨h1,h2,h3,h4,h5,h6,hL⟩|⟨h1,h2,h3,h4,h5,h6,h7,hL⟩|⟨h1,h2,h3,h4,h5,h6,h7,hL⟩
 all_goals
  rw[af3,hL];clear hL;go_enter Tryz.func145,Tryz.ntmps145;go_wp2;go_ret;exact⟨rfl,skB⟩
theorem ay1(ur ug ub ua ut uc ui:Int)(ul:Bool)(un:Int)(w:World):
  Calls Tryz.prog 150 #[.agg #[.int .u8 ur,.int .u8 ug,.int .u8 ub,.int .u8 ua,.int .i64 ut,.int .u8 uc,.int .i64 ui,.bool ul,.int .i64 un]] w fun e w'=>e=.returned (.bool (QR ⟨ur,ug,ub,ua,ut,uc,ui,ul,un⟩))∧Below w.heap.size w w':=by
 rcases a4F ur ug ub ua ut uc ui ul un with⟨h1,hL⟩|⟨h1,h2,hL⟩|⟨h1,h2,h3,hL⟩|⟨h1,h2,h3,h4,hL⟩|⟨h1,h2,h3,h4,h5,hL⟩|⟨h1,h2,h3,h4,h5,h6,hL⟩|⟨h1,h2,h3,h4,h5,h6,h7,hL⟩|⟨h1,h2,h3,h4,h5,h6,h7,hL⟩
 all_goals
  rw[hL];clear hL;go_enter Tryz.func150,Tryz.ntmps150;go_wp2;go_ret;exact⟨by simp;try omega,skB⟩
theorem a7r{n:Int}(h:U8 n):(n=0∧N7 n=true)∨(n≠0∧n % 2=0∧N7 n=false)∨(n≠0∧n % 2=1∧7<n∧N7 n=false)∨(n≠0∧n % 2=1∧n≤7∧N7 n=true):=by
 obtain⟨h0,h1⟩:=h;have e:N7 n=(decide (n=0)||(decide (n=1)||(decide (n=3)||(decide (n=5)||decide (n=7))))):=rfl;rw[e];simp only[Bool.or_eq_true,Bool.or_eq_false_iff,decide_eq_true_eq,decide_eq_false_iff_not];omega
theorem Qu(n:Int)(hn:U8 n)(w:World):
  Calls Tryz.prog 144 #[.int .u8 n] w fun e w'=>e=.returned (.bool (N7 n))∧Below w.heap.size w w':=by
 have ha:=aC5 hn;rcases a7r hn with⟨rfl,hL⟩|⟨h1,h2,hL⟩|⟨h1,h2,h3,hL⟩|⟨h1,h2,h3,hL⟩
 all_goals
  rw[hL]
  try rw[h2]at ha
  try(have d1:(n==0)=false:=by simp[h1])
  clear hL;go_enter Tryz.func144,Tryz.ntmps144;go_wp2;go_ret;exact⟨by simp;try omega,skB⟩
end
section
attribute [local go_sem] a3f a24
attribute [local go_sem] col_49
attribute [local go_sem] col_50
attribute [local go_sem] col9_49
attribute [local go_sem] col9_50
attribute [local go_sem] col8_49
attribute [local go_sem] col8_50
attribute [local go_sem] larr_48
theorem a64(s:Sy):eqL (ah6 s) s.l=true↔(s.s0=0→eq4 s.l.r s.l.g s.l.b s.l.a 0 0 0 0=true)∧(s.s1=0→s.l.tx=0)∧(s.s2=0→s.l.cu=0)∧(s.s3=0→s.l.bi=0)∧(s.s4=0→s.l.bl=false∧s.l.bn=0):=by
 obtain⟨s0,s1,s2,s3,s4,⟨r,g,b,a,t,c,i,l,n⟩⟩:=s;by_cases h0:s0=0<;>by_cases h1:s1=0<;>by_cases h2:s2=0<;>by_cases h3:s3=0<;>by_cases h4:s4=0<;>cases l<;>
  simp[ah6,B2,sd,t0,t1,t2,t3,t4,lk0,eqL,eqC,eq4,h0,h1,h2,h3,h4]<;>omega
structure a7d (p:Prop):Prop where
 out:p
theorem aa8{n:Int}(h:U8 n):(¬0<n∧¬7<n∧n.tmod 2=0∧N7 n=true)∨(0<n∧¬7<n∧n.tmod 2=0∧N7 n=false)∨(7<n∧N7 n=false)∨(0<n∧¬7<n∧n.tmod 2=1∧N7 n=true):=by
 have e:n.tmod 2=n % 2:=Int.tmod_eq_emod_of_nonneg h.1;rw[e];rcases a7r h with⟨h1,h2⟩|⟨h1,h2,h3⟩|⟨h1,h2,h3,h4⟩|⟨h1,h2,h3,h4⟩
 ·exact .inl ⟨om0,om0,om0,h2⟩
 ·obtain⟨a,b⟩:=h;by_cases h7:7<n
  ·exact .inr (.inr (.inl ⟨h7,h3⟩))
  ·exact .inr (.inl ⟨om0,h7,h2,h3⟩)
 ·exact .inr (.inr (.inl ⟨h3,h4⟩))
 ·obtain⟨a,b⟩:=h;exact .inr (.inr (.inr ⟨om0,om0,h2,h4⟩))
theorem a3n(s0 s1 s2 s3 s4:Int)(vr vg vb va vt vc vi:Int)(vl:Bool)(vn:Int)(hB:SyB ⟨s0,s1,s2,s3,s4,⟨vr,vg,vb,va,vt,vc,vi,vl,vn⟩⟩)(w:World):
  Calls Tryz.prog 97 #[.agg #[.int .u8 s0,.int .u8 s1,.int .u8 s2,.int .u8 s3,.int .u8 s4,.int .u8 vr,.int .u8 vg,.int .u8 vb,.int .u8 va,.int .i64 vt,.int .u8 vc,.int .i64 vi,.bool vl,.int .i64 vn]] w fun e w'=>e=.returned (.bool (E6 ⟨s0,s1,s2,s3,s4,⟨vr,vg,vb,va,vt,vc,vi,vl,vn⟩⟩))∧Below w.heap.size w w':=by
 obtain⟨b0,b1,b2,b3,b4,_⟩:=hB;simp only at b0 b1 b2 b3 b4;go_enter Tryz.func97,Tryz.ntmps97;go_wp2;go_loopw [3] (fun i wr=>∃(k:Nat) (kv:Int),k≤5∧kv=k∧i=.int .i64 kv∧(0<k→N7 s0=true)∧(1<k→N7 s1=true)∧(2<k→N7 s2=true)∧(3<k→N7 s3=true)∧(4<k→N7 s4=true)∧∃x,wr=plus (w.alloc (.cells #[.int .u8 s0,.int .u8 s1,.int .u8 s2,.int .u8 s3,.int .u8 s4,.int .u8 vr,.int .u8 vg,.int .u8 vb,.int .u8 va,.int .i64 vt,.int .u8 vc,.int .i64 vi,.bool vl,.int .i64 vn] 54)) x) (fun i _=>5 - (intOf i).toNat)
 case atStart=>exact⟨0,0,om0,rfl,rfl,om0,om0,om0,om0,om0,sk0⟩
 case round=>
  obtain⟨k,kv,hk,hkv,rfl,y0,y1,y2,y3,y4,x,rfl⟩:=hrel;rcases(show k=0∨k=1∨k=2∨k=3∨k=4∨k=5 by omega)with rfl|rfl|rfl|rfl|rfl|rfl
  ·obtain rfl:kv=0:=om0;clear hk hkv;rcases aa8 b0 with⟨h1,h2,h3,hy⟩|⟨h1,h2,h3,hy⟩|⟨h1,hy⟩|⟨h1,h2,h3,hy⟩
   ·go_wp2;go_roundw
    case rel=>exact⟨1,1,om0,rfl,by go_num,(fun _=>hy),(fun h=>absurd h dc0),(fun h=>absurd h dc0),(fun h=>absurd h dc0),(fun h=>absurd h dc0),sk0⟩
    case measure=>simp[intOf]
   ·go_wp2;go_ret;exact⟨by rw[show E6 ⟨s0,s1,s2,s3,s4,⟨vr,vg,vb,va,vt,vc,vi,vl,vn⟩⟩=false by simp[E6,N4,hy]];rfl,skB⟩
   ·go_wp2;go_ret;exact⟨by rw[show E6 ⟨s0,s1,s2,s3,s4,⟨vr,vg,vb,va,vt,vc,vi,vl,vn⟩⟩=false by simp[E6,N4,hy]];rfl,skB⟩
   ·go_wp2;go_roundw
    case rel=>exact⟨1,1,om0,rfl,by go_num,(fun _=>hy),(fun h=>absurd h dc0),(fun h=>absurd h dc0),(fun h=>absurd h dc0),(fun h=>absurd h dc0),sk0⟩
    case measure=>simp[intOf]
  ·obtain rfl:kv=1:=om0;clear hk hkv;rcases aa8 b1 with⟨h1,h2,h3,hy⟩|⟨h1,h2,h3,hy⟩|⟨h1,hy⟩|⟨h1,h2,h3,hy⟩
   ·go_wp2;go_roundw
    case rel=>exact⟨2,2,om0,rfl,by go_num,(fun _=>y0 dc0),(fun _=>hy),(fun h=>absurd h dc0),(fun h=>absurd h dc0),(fun h=>absurd h dc0),sk0⟩
    case measure=>simp[intOf]
   ·go_wp2;go_ret;exact⟨by rw[show E6 ⟨s0,s1,s2,s3,s4,⟨vr,vg,vb,va,vt,vc,vi,vl,vn⟩⟩=false by simp[E6,N4,hy]];rfl,skB⟩
   ·go_wp2;go_ret;exact⟨by rw[show E6 ⟨s0,s1,s2,s3,s4,⟨vr,vg,vb,va,vt,vc,vi,vl,vn⟩⟩=false by simp[E6,N4,hy]];rfl,skB⟩
   ·go_wp2;go_roundw
    case rel=>exact⟨2,2,om0,rfl,by go_num,(fun _=>y0 dc0),(fun _=>hy),(fun h=>absurd h dc0),(fun h=>absurd h dc0),(fun h=>absurd h dc0),sk0⟩
    case measure=>simp[intOf]
  ·obtain rfl:kv=2:=om0;clear hk hkv;rcases aa8 b2 with⟨h1,h2,h3,hy⟩|⟨h1,h2,h3,hy⟩|⟨h1,hy⟩|⟨h1,h2,h3,hy⟩
   ·go_wp2;go_roundw
    case rel=>exact⟨3,3,om0,rfl,by go_num,(fun _=>y0 dc0),(fun _=>y1 dc0),(fun _=>hy),(fun h=>absurd h dc0),(fun h=>absurd h dc0),sk0⟩
    case measure=>simp[intOf]
   ·go_wp2;go_ret;exact⟨by rw[show E6 ⟨s0,s1,s2,s3,s4,⟨vr,vg,vb,va,vt,vc,vi,vl,vn⟩⟩=false by simp[E6,N4,hy]];rfl,skB⟩
   ·go_wp2;go_ret;exact⟨by rw[show E6 ⟨s0,s1,s2,s3,s4,⟨vr,vg,vb,va,vt,vc,vi,vl,vn⟩⟩=false by simp[E6,N4,hy]];rfl,skB⟩
   ·go_wp2;go_roundw
    case rel=>exact⟨3,3,om0,rfl,by go_num,(fun _=>y0 dc0),(fun _=>y1 dc0),(fun _=>hy),(fun h=>absurd h dc0),(fun h=>absurd h dc0),sk0⟩
    case measure=>simp[intOf]
  ·obtain rfl:kv=3:=om0;clear hk hkv;rcases aa8 b3 with⟨h1,h2,h3,hy⟩|⟨h1,h2,h3,hy⟩|⟨h1,hy⟩|⟨h1,h2,h3,hy⟩
   ·go_wp2;go_roundw
    case rel=>exact⟨4,4,om0,rfl,by go_num,(fun _=>y0 dc0),(fun _=>y1 dc0),(fun _=>y2 dc0),(fun _=>hy),(fun h=>absurd h dc0),sk0⟩
    case measure=>simp[intOf]
   ·go_wp2;go_ret;exact⟨by rw[show E6 ⟨s0,s1,s2,s3,s4,⟨vr,vg,vb,va,vt,vc,vi,vl,vn⟩⟩=false by simp[E6,N4,hy]];rfl,skB⟩
   ·go_wp2;go_ret;exact⟨by rw[show E6 ⟨s0,s1,s2,s3,s4,⟨vr,vg,vb,va,vt,vc,vi,vl,vn⟩⟩=false by simp[E6,N4,hy]];rfl,skB⟩
   ·go_wp2;go_roundw
    case rel=>exact⟨4,4,om0,rfl,by go_num,(fun _=>y0 dc0),(fun _=>y1 dc0),(fun _=>y2 dc0),(fun _=>hy),(fun h=>absurd h dc0),sk0⟩
    case measure=>simp[intOf]
  ·obtain rfl:kv=4:=om0;clear hk hkv;rcases aa8 b4 with⟨h1,h2,h3,hy⟩|⟨h1,h2,h3,hy⟩|⟨h1,hy⟩|⟨h1,h2,h3,hy⟩
   ·go_wp2;go_roundw
    case rel=>exact⟨5,5,om0,rfl,by go_num,(fun _=>y0 dc0),(fun _=>y1 dc0),(fun _=>y2 dc0),(fun _=>y3 dc0),(fun _=>hy),sk0⟩
    case measure=>simp[intOf]
   ·go_wp2;go_ret;exact⟨by rw[show E6 ⟨s0,s1,s2,s3,s4,⟨vr,vg,vb,va,vt,vc,vi,vl,vn⟩⟩=false by simp[E6,N4,hy]];rfl,skB⟩
   ·go_wp2;go_ret;exact⟨by rw[show E6 ⟨s0,s1,s2,s3,s4,⟨vr,vg,vb,va,vt,vc,vi,vl,vn⟩⟩=false by simp[E6,N4,hy]];rfl,skB⟩
   ·go_wp2;go_roundw
    case rel=>exact⟨5,5,om0,rfl,by go_num,(fun _=>y0 dc0),(fun _=>y1 dc0),(fun _=>y2 dc0),(fun _=>y3 dc0),(fun _=>hy),sk0⟩
    case measure=>simp[intOf]
  ·obtain rfl:kv=5:=om0;have h5:N4 ⟨s0,s1,s2,s3,s4,⟨vr,vg,vb,va,vt,vc,vi,vl,vn⟩⟩=true:=a4b.2 ⟨y0 dc0,y1 dc0,y2 dc0,y3 dc0,y4 dc0⟩;have hz:=a64 ⟨s0,s1,s2,s3,s4,⟨vr,vg,vb,va,vt,vc,vi,vl,vn⟩⟩;simp only at hz;have e5:E6 ⟨s0,s1,s2,s3,s4,⟨vr,vg,vb,va,vt,vc,vi,vl,vn⟩⟩=(QR ⟨vr,vg,vb,va,vt,vc,vi,vl,vn⟩&&eqL (ah6 ⟨s0,s1,s2,s3,s4,⟨vr,vg,vb,va,vt,vc,vi,vl,vn⟩⟩) ⟨vr,vg,vb,va,vt,vc,vi,vl,vn⟩):=by rw[E6,h5];rfl
   obtain⟨E,hE⟩:∃E,eqL (ah6 ⟨s0,s1,s2,s3,s4,⟨vr,vg,vb,va,vt,vc,vi,vl,vn⟩⟩) ⟨vr,vg,vb,va,vt,vc,vi,vl,vn⟩=E:=⟨_,rfl⟩;rw[hE]at e5 hz;clear hE h5 hk hkv b0 b1 b2 b3 b4 y0 y1 y2 y3 y4
   replace hz:=(⟨hz⟩:a7d _)
   replace e5:=(⟨e5⟩:a7d _)
   go_wp2_with (go_at_call 150;refine pm0 (ay1 _ _ _ _ _ _ _ _ _ _) fun nx=>?_)
   all_goals
    try(have hn:¬vn=0:=by have q:(vn !=0)=true:=(by assumption);simpa using q)
    try(have hn:vn=0:=by have q:(vn !=0)=false:=(by assumption);simpa using q)
    subst_vars
    go_ret;refine⟨?_,skB⟩;rw[e5.out]
    first
     |(rw[show E=true from hz.out.2 ⟨(by first|exact fun _=>rfl|exact fun _=>by assumption|exact fun h=>absurd h (by assumption)|exact fun _=>⟨rfl,rfl⟩|exact fun _=>⟨Bool.eq_false_iff.2 (by assumption),rfl⟩|exact fun _=>⟨by assumption,rfl⟩),(by first|exact fun _=>rfl|exact fun _=>by assumption|exact fun h=>absurd h (by assumption)|exact fun _=>⟨rfl,rfl⟩|exact fun _=>⟨Bool.eq_false_iff.2 (by assumption),rfl⟩|exact fun _=>⟨by assumption,rfl⟩),(by first|exact fun _=>rfl|exact fun _=>by assumption|exact fun h=>absurd h (by assumption)|exact fun _=>⟨rfl,rfl⟩|exact fun _=>⟨Bool.eq_false_iff.2 (by assumption),rfl⟩|exact fun _=>⟨by assumption,rfl⟩),(by first|exact fun _=>rfl|exact fun _=>by assumption|exact fun h=>absurd h (by assumption)|exact fun _=>⟨rfl,rfl⟩|exact fun _=>⟨Bool.eq_false_iff.2 (by assumption),rfl⟩|exact fun _=>⟨by assumption,rfl⟩),(by first|exact fun _=>rfl|exact fun _=>by assumption|exact fun h=>absurd h (by assumption)|exact fun _=>⟨rfl,rfl⟩|exact fun _=>⟨Bool.eq_false_iff.2 (by assumption),rfl⟩|exact fun _=>⟨by assumption,rfl⟩)⟩,Bool.and_true];rfl)
     |(rw[show E=false from Bool.eq_false_iff.2 (fun h=>by
       obtain⟨z0,z1,z2,z3,z4⟩:=hz.out.1 h
       first
        |exact absurd (z0 rfl) (by assumption)
        |exact absurd (z0 rfl) (by rw[Bool.not_eq_true];assumption)
        |exact absurd (z1 rfl) (by assumption)
        |exact absurd (z2 rfl) (by assumption)
        |exact absurd (z3 rfl) (by assumption)
        |exact absurd (z4 rfl).2 (by assumption)
        |exact absurd (z4 rfl).1 (by intro q;cases q)),Bool.and_false];rfl)
end
section
attribute [local go_sem] a8f a7U a7x a7J a8k a7D
theorem Ze(x y z:Int)(w:World):
  Calls Tryz.prog 95 #[.agg #[.int .i64 x,.int .i64 y,.int .i64 z]] w fun e w'=>e=.returned (.int .i64 (a8c ⟨x,y,z⟩))∧Below w.heap.size w w':=by
 cases hv:Q8 ⟨x,y,z⟩ 4096
 ·rw[show a8c ⟨x,y,z⟩=20 by simp[a8c,hv]];go_enter Tryz.func95,Tryz.ntmps95;go_wp2_with (first|(go_at_call 149;refine pm0 (ZZ _ _ _ _) fun nx=>?_)|(go_at_call 148;refine pm0 (G4 _ _ _ _ om0 om0 _) fun nx=>?_));go_ret;exact⟨rfl,skB⟩
 ·rw[show a8c ⟨x,y,z⟩=0 by simp[a8c,hv]];go_enter Tryz.func95,Tryz.ntmps95;go_wp2_with (first|(go_at_call 149;refine pm0 (ZZ _ _ _ _) fun nx=>?_)|(go_at_call 148;refine pm0 (G4 _ _ _ _ om0 om0 _) fun nx=>?_));go_ret;exact⟨rfl,skB⟩
theorem aq1(a b c d o f g u i p q r:Int)(w:World):
  Calls Tryz.prog 94 #[.agg #[.int .i64 a,.int .i64 b,.int .i64 c,.int .i64 d,.int .i64 o,.int .i64 f,.int .i64 g,.int .i64 u,.int .i64 i,.int .i64 p,.int .i64 q,.int .i64 r]] w fun e w'=>e=.returned (.int .i64 (a8x ⟨⟨⟨a,b,c⟩,⟨d,o,f⟩,⟨g,u,i⟩⟩,⟨p,q,r⟩⟩))∧Below w.heap.size w w':=by
 cases hm:Zp ⟨⟨a,b,c⟩,⟨d,o,f⟩,⟨g,u,i⟩⟩ 1024
 ·rw[show a8x ⟨⟨⟨a,b,c⟩,⟨d,o,f⟩,⟨g,u,i⟩⟩,⟨p,q,r⟩⟩=20 by simp[a8x,ar4,hm]];go_enter Tryz.func94,Tryz.ntmps94;go_wp2_with (first|(go_at_call 147;refine pm0 (X6 _ _ _ _ _ _ _ _ _ _ om0 om0 _) fun nx=>?_)|(go_at_call 95;refine pm0 (Ze _ _ _ _) fun nx=>?_));go_ret;exact⟨rfl,skB⟩
 ·rw[show a8x ⟨⟨⟨a,b,c⟩,⟨d,o,f⟩,⟨g,u,i⟩⟩,⟨p,q,r⟩⟩=a8c ⟨p,q,r⟩by simp[a8x,a8c,ar4,hm]];go_enter Tryz.func94,Tryz.ntmps94;go_wp2_with (first|(go_at_call 147;refine pm0 (X6 _ _ _ _ _ _ _ _ _ _ om0 om0 _) fun nx=>?_)|(go_at_call 95;refine pm0 (Ze _ _ _ _) fun nx=>?_));go_ret;exact⟨rfl,skB⟩
end
section
attribute [local go_sem] a8f a7U a7x a7J a8k a7D
end
section
attribute [local go_sem] a8f a7U a7x a7J a8k a7D
theorem zN(n l:Int)(h0:0≤l)(h1:l≤1000000)(w:World):
  Calls Tryz.prog 152 #[.int .i64 n,.int .i64 l] w fun e w'=>e=.returned (.bool (I7 n l))∧w'=w:=by
 rcases ac6 n l with⟨a1,a2,a3⟩|⟨a1,a3⟩|⟨a1,a2,a3⟩
 all_goals
  rw[a3];clear a3
  try have hd:decide (n≤l)=false:=decide_eq_false om0
  go_enter Tryz.func152,Tryz.ntmps152;go_wp2;go_ret;exact⟨rfl,rfl⟩
theorem ZH(x y z l:Int)(h0:0≤l)(h1:l≤1000000)(w:World):
  Calls Tryz.prog 99 #[.agg #[.int .i64 x,.int .i64 y,.int .i64 z],.int .i64 l] w fun e w'=>e=.returned (.bool (Q8 ⟨x,y,z⟩ l))∧Below w.heap.size w w':=by
 cases wx:I7 x l
 ·rw[show Q8 ⟨x,y,z⟩ l=false by simp[Q8,wx]];go_enter Tryz.func99,Tryz.ntmps99;go_wp2_with (go_at_call 152;refine(zN _ _ om0 om0 _).mono ?_;rintro e w' ⟨rfl,rfl⟩);go_ret;exact⟨rfl,skB⟩
 ·cases wy:I7 y l
  ·rw[show Q8 ⟨x,y,z⟩ l=false by simp[Q8,wy]];go_enter Tryz.func99,Tryz.ntmps99;go_wp2_with (go_at_call 152;refine(zN _ _ om0 om0 _).mono ?_;rintro e w' ⟨rfl,rfl⟩);go_ret;exact⟨rfl,skB⟩
  ·rw[show Q8 ⟨x,y,z⟩ l=I7 z l by simp[Q8,wx,wy]];go_enter Tryz.func99,Tryz.ntmps99;go_wp2_with (go_at_call 152;refine(zN _ _ om0 om0 _).mono ?_;rintro e w' ⟨rfl,rfl⟩);go_ret;exact⟨rfl,skB⟩
theorem an9(a b c d o f g u i l:Int)(h0:0≤l)(h1:l≤1000000)(w:World):
  Calls Tryz.prog 151 #[.agg #[.int .i64 a,.int .i64 b,.int .i64 c,.int .i64 d,.int .i64 o,.int .i64 f,.int .i64 g,.int .i64 u,.int .i64 i],.int .i64 l] w fun e w'=>e=.returned (.bool (Zp ⟨⟨a,b,c⟩,⟨d,o,f⟩,⟨g,u,i⟩⟩ l))∧Below w.heap.size w w':=by
 cases w0:I7 a l
 ·rw[show Zp ⟨⟨a,b,c⟩,⟨d,o,f⟩,⟨g,u,i⟩⟩ l=false by simp[Zp,Q8,w0]];go_enter Tryz.func151,Tryz.ntmps151;go_wp2_with (go_at_call 152;refine(zN _ _ om0 om0 _).mono ?_;rintro e w' ⟨rfl,rfl⟩)
  repeat any_goals (first|(rw[rounds_succ];go_wp2_with (go_at_call 152;refine(zN _ _ om0 om0 _).mono ?_;rintro e w' ⟨rfl,rfl⟩))|refine wp_loop_rounds 4 ?_)
  go_ret;exact⟨rfl,skB⟩
 ·
  cases w1:I7 b l
  ·rw[show Zp ⟨⟨a,b,c⟩,⟨d,o,f⟩,⟨g,u,i⟩⟩ l=false by simp[Zp,Q8,w1]];go_enter Tryz.func151,Tryz.ntmps151;go_wp2_with (go_at_call 152;refine(zN _ _ om0 om0 _).mono ?_;rintro e w' ⟨rfl,rfl⟩)
   repeat any_goals (first|(rw[rounds_succ];go_wp2_with (go_at_call 152;refine(zN _ _ om0 om0 _).mono ?_;rintro e w' ⟨rfl,rfl⟩))|refine wp_loop_rounds 4 ?_)
   go_ret;exact⟨rfl,skB⟩
  ·
   cases w2:I7 c l
   ·rw[show Zp ⟨⟨a,b,c⟩,⟨d,o,f⟩,⟨g,u,i⟩⟩ l=false by simp[Zp,Q8,w2]];go_enter Tryz.func151,Tryz.ntmps151;go_wp2_with (go_at_call 152;refine(zN _ _ om0 om0 _).mono ?_;rintro e w' ⟨rfl,rfl⟩)
    repeat any_goals (first|(rw[rounds_succ];go_wp2_with (go_at_call 152;refine(zN _ _ om0 om0 _).mono ?_;rintro e w' ⟨rfl,rfl⟩))|refine wp_loop_rounds 4 ?_)
    go_ret;exact⟨rfl,skB⟩
   ·
    cases w3:I7 d l
    ·rw[show Zp ⟨⟨a,b,c⟩,⟨d,o,f⟩,⟨g,u,i⟩⟩ l=false by simp[Zp,Q8,w3]];go_enter Tryz.func151,Tryz.ntmps151;go_wp2_with (go_at_call 152;refine(zN _ _ om0 om0 _).mono ?_;rintro e w' ⟨rfl,rfl⟩)
     repeat any_goals (first|(rw[rounds_succ];go_wp2_with (go_at_call 152;refine(zN _ _ om0 om0 _).mono ?_;rintro e w' ⟨rfl,rfl⟩))|refine wp_loop_rounds 4 ?_)
     go_ret;exact⟨rfl,skB⟩
    ·
     cases w4:I7 o l
     ·rw[show Zp ⟨⟨a,b,c⟩,⟨d,o,f⟩,⟨g,u,i⟩⟩ l=false by simp[Zp,Q8,w4]];go_enter Tryz.func151,Tryz.ntmps151;go_wp2_with (go_at_call 152;refine(zN _ _ om0 om0 _).mono ?_;rintro e w' ⟨rfl,rfl⟩)
      repeat any_goals (first|(rw[rounds_succ];go_wp2_with (go_at_call 152;refine(zN _ _ om0 om0 _).mono ?_;rintro e w' ⟨rfl,rfl⟩))|refine wp_loop_rounds 4 ?_)
      go_ret;exact⟨rfl,skB⟩
     ·
      cases w5:I7 f l
      ·rw[show Zp ⟨⟨a,b,c⟩,⟨d,o,f⟩,⟨g,u,i⟩⟩ l=false by simp[Zp,Q8,w5]];go_enter Tryz.func151,Tryz.ntmps151;go_wp2_with (go_at_call 152;refine(zN _ _ om0 om0 _).mono ?_;rintro e w' ⟨rfl,rfl⟩)
       repeat any_goals (first|(rw[rounds_succ];go_wp2_with (go_at_call 152;refine(zN _ _ om0 om0 _).mono ?_;rintro e w' ⟨rfl,rfl⟩))|refine wp_loop_rounds 4 ?_)
       go_ret;exact⟨rfl,skB⟩
      ·
       cases w6:I7 g l
       ·rw[show Zp ⟨⟨a,b,c⟩,⟨d,o,f⟩,⟨g,u,i⟩⟩ l=false by simp[Zp,Q8,w6]];go_enter Tryz.func151,Tryz.ntmps151;go_wp2_with (go_at_call 152;refine(zN _ _ om0 om0 _).mono ?_;rintro e w' ⟨rfl,rfl⟩)
        repeat any_goals (first|(rw[rounds_succ];go_wp2_with (go_at_call 152;refine(zN _ _ om0 om0 _).mono ?_;rintro e w' ⟨rfl,rfl⟩))|refine wp_loop_rounds 4 ?_)
        go_ret;exact⟨rfl,skB⟩
       ·
        cases w7:I7 u l
        ·rw[show Zp ⟨⟨a,b,c⟩,⟨d,o,f⟩,⟨g,u,i⟩⟩ l=false by simp[Zp,Q8,w7]];go_enter Tryz.func151,Tryz.ntmps151;go_wp2_with (go_at_call 152;refine(zN _ _ om0 om0 _).mono ?_;rintro e w' ⟨rfl,rfl⟩)
         repeat any_goals (first|(rw[rounds_succ];go_wp2_with (go_at_call 152;refine(zN _ _ om0 om0 _).mono ?_;rintro e w' ⟨rfl,rfl⟩))|refine wp_loop_rounds 4 ?_)
         go_ret;exact⟨rfl,skB⟩
        ·
         cases w8:I7 i l
         ·rw[show Zp ⟨⟨a,b,c⟩,⟨d,o,f⟩,⟨g,u,i⟩⟩ l=false by simp[Zp,Q8,w8]];go_enter Tryz.func151,Tryz.ntmps151;go_wp2_with (go_at_call 152;refine(zN _ _ om0 om0 _).mono ?_;rintro e w' ⟨rfl,rfl⟩)
          repeat any_goals (first|(rw[rounds_succ];go_wp2_with (go_at_call 152;refine(zN _ _ om0 om0 _).mono ?_;rintro e w' ⟨rfl,rfl⟩))|refine wp_loop_rounds 4 ?_)
          go_ret;exact⟨rfl,skB⟩
         ·
          rw[show Zp ⟨⟨a,b,c⟩,⟨d,o,f⟩,⟨g,u,i⟩⟩ l=true by simp[Zp,Q8,w0,w1,w2,w3,w4,w5,w6,w7,w8]];go_enter Tryz.func151,Tryz.ntmps151;go_wp2_with (go_at_call 152;refine(zN _ _ om0 om0 _).mono ?_;rintro e w' ⟨rfl,rfl⟩)
          repeat any_goals (first|(rw[rounds_succ];go_wp2_with (go_at_call 152;refine(zN _ _ om0 om0 _).mono ?_;rintro e w' ⟨rfl,rfl⟩))|refine wp_loop_rounds 4 ?_)
          go_ret;exact⟨rfl,skB⟩
theorem a1E(a b c d o f g u i p q r:Int)(w:World):
  Calls Tryz.prog 98 #[.agg #[.int .i64 a,.int .i64 b,.int .i64 c,.int .i64 d,.int .i64 o,.int .i64 f,.int .i64 g,.int .i64 u,.int .i64 i,.int .i64 p,.int .i64 q,.int .i64 r]] w fun e w'=>e=.returned (.bool (ar4 ⟨⟨⟨a,b,c⟩,⟨d,o,f⟩,⟨g,u,i⟩⟩,⟨p,q,r⟩⟩))∧Below w.heap.size w w':=by
 cases h1:Zp ⟨⟨a,b,c⟩,⟨d,o,f⟩,⟨g,u,i⟩⟩ 1024
 ·rw[show ar4 ⟨⟨⟨a,b,c⟩,⟨d,o,f⟩,⟨g,u,i⟩⟩,⟨p,q,r⟩⟩=false by simp[ar4,h1]];go_enter Tryz.func98,Tryz.ntmps98;go_wp2_with (first|(go_at_call 151;refine pm0 (an9 _ _ _ _ _ _ _ _ _ _ om0 om0 _) fun nx=>?_)|(go_at_call 99;refine pm0 (ZH _ _ _ _ om0 om0 _) fun nx=>?_));go_ret;exact⟨rfl,skB⟩
 ·rw[show ar4 ⟨⟨⟨a,b,c⟩,⟨d,o,f⟩,⟨g,u,i⟩⟩,⟨p,q,r⟩⟩=Q8 ⟨p,q,r⟩ 4096 by simp[ar4,h1]];go_enter Tryz.func98,Tryz.ntmps98;go_wp2_with (first|(go_at_call 151;refine pm0 (an9 _ _ _ _ _ _ _ _ _ _ om0 om0 _) fun nx=>?_)|(go_at_call 99;refine pm0 (ZH _ _ _ _ om0 om0 _) fun nx=>?_));go_ret;exact⟨rfl,skB⟩
end
section
def ze (nm nt:Nat) (n:Nd):Bool:=
 decide (1≤n.f.kind∧n.f.kind≤5)&&(E6 n.f.sty&&(!(decide (0<n.f.sty.s1)&&decide ((nt:Int)≤n.f.sty.l.tx))&&
 ((if n.f.kind=2 then ar4 n.f.m else ap7 n.f.m L6)&&((decide (n.f.kind=3)||decide (n.f.on=0))&&((decide (n.f.kind=4)||(eqv n.f.cen zl&&decide (n.far.length=0)))&&
 (if n.f.kind=5 then decide (0≤n.f.mesh∧n.f.mesh<nm)else decide (n.f.mesh=0)&&(Q8 n.f.cen 4096&&G8 n.far)))))))
theorem A9{s0 s1 s2 s3 s4 vr vg vb va vt vc vi:Int}{vl:Bool}{vn:Int}{b:Bool}{w:World}(h:E6 ⟨s0,s1,s2,s3,s4,⟨vr,vg,vb,va,vt,vc,vi,vl,vn⟩⟩=b)(hB:SyB ⟨s0,s1,s2,s3,s4,⟨vr,vg,vb,va,vt,vc,vi,vl,vn⟩⟩):
  Calls Tryz.prog 97 #[.agg #[.int .u8 s0,.int .u8 s1,.int .u8 s2,.int .u8 s3,.int .u8 s4,.int .u8 vr,.int .u8 vg,.int .u8 vb,.int .u8 va,.int .i64 vt,.int .u8 vc,.int .i64 vi,.bool vl,.int .i64 vn]] w fun e w'=>e=.returned (.bool b)∧Below w.heap.size w w':=h▸a3n s0 s1 s2 s3 s4 vr vg vb va vt vc vi vl vn hB w
theorem v9{a b c d o f g u i p q r:Int}{v:Bool}{w:World}(h:ar4 ⟨⟨⟨a,b,c⟩,⟨d,o,f⟩,⟨g,u,i⟩⟩,⟨p,q,r⟩⟩=v):
  Calls Tryz.prog 98 #[.agg #[.int .i64 a,.int .i64 b,.int .i64 c,.int .i64 d,.int .i64 o,.int .i64 f,.int .i64 g,.int .i64 u,.int .i64 i,.int .i64 p,.int .i64 q,.int .i64 r]] w fun e w'=>e=.returned (.bool v)∧Below w.heap.size w w':=h▸a1E a b c d o f g u i p q r w
theorem B1{x y z:Int}{v:Bool}{w:World}(h:Q8 ⟨x,y,z⟩ 4096=v):
  Calls Tryz.prog 99 #[.agg #[.int .i64 x,.int .i64 y,.int .i64 z],.int .i64 4096] w fun e w'=>e=.returned (.bool v)∧Below w.heap.size w w':=h▸ZH x y z 4096 dc0 dc0 w
end
section
theorem a6b(ga ka na ma ta:Option Addr)(gn gc kn kc nn nc mn mc tn tc:Nat)(r0 r1:Int)(am0 am1 am2 am3 am4 am5 am6 am7 am8 am9 am10 am11 ao ac0 ac1 ac2 ae as0 as1 as2 as3 as4 as5 as6 as7 as8 as9 as10 as11 as13:Int)(as12:Bool)(aa:Option Addr)(an ax:Nat)(af:List Int)(w:World)(hB:NfB ⟨1,⟨⟨⟨am0,am1,am2⟩,⟨am3,am4,am5⟩,⟨am6,am7,am8⟩⟩,⟨am9,am10,am11⟩⟩,ao,⟨ac0,ac1,ac2⟩,ae,⟨as0,as1,as2,as3,as4,⟨as5,as6,as7,as8,as9,as10,as11,as12,as13⟩⟩⟩)(hl:Lay fI w aa an af)(hn:an≤9223372036854775807)(hsty:E6 ⟨as0,as1,as2,as3,as4,⟨as5,as6,as7,as8,as9,as10,as11,as12,as13⟩⟩=true)(htx:0<as1→as9<(tn:Int)):
  Calls Tryz.prog 51 #[.agg #[.slice ga gn gc,.slice ka kn kc,.slice na nn nc,.slice ma mn mc,.slice ta tn tc,.int .i64 r0,.int .i64 r1],.agg (List.toArray (.int .u8 1::.int .i64 am0::.int .i64 am1::.int .i64 am2::.int .i64 am3::.int .i64 am4::.int .i64 am5::.int .i64 am6::.int .i64 am7::.int .i64 am8::.int .i64 am9::.int .i64 am10::.int .i64 am11::.int .u16 ao::.int .i64 ac0::.int .i64 ac1::.int .i64 ac2::.slice aa an ax::.int .i64 ae::.int .u8 as0::.int .u8 as1::.int .u8 as2::.int .u8 as3::.int .u8 as4::.int .u8 as5::.int .u8 as6::.int .u8 as7::.int .u8 as8::.int .i64 as9::.int .u8 as10::.int .i64 as11::.bool as12::.int .i64 as13::[]))] w fun e w'=>e=.returned (.bool (ze mn tn ⟨⟨1,⟨⟨⟨am0,am1,am2⟩,⟨am3,am4,am5⟩,⟨am6,am7,am8⟩⟩,⟨am9,am10,am11⟩⟩,ao,⟨ac0,ac1,ac2⟩,ae,⟨as0,as1,as2,as3,as4,⟨as5,as6,as7,as8,as9,as10,as11,as12,as13⟩⟩⟩,af⟩))∧∃y,w'=plus w y:=by
 have hlen:=hl.len;have hx:(0<as1∧as9<(tn:Int))∨¬0<as1:=om0;have hy:as1≤0∨as9<(tn:Int):=om0
 replace hy:=qw.mk hy
 clear htx;go_enter Tryz.func51,Tryz.ntmps51;go_upto_region 1 with fail;go_cut [35] (fun v wx=>v=.bool false∧∃y,wx=plus ((w.alloc (.cells #[.slice ga gn gc,.slice ka kn kc,.slice na nn nc,.slice ma mn mc,.slice ta tn tc,.int .i64 r0,.int .i64 r1] 34)).alloc (.cells (List.toArray (.int .u8 1::.int .i64 am0::.int .i64 am1::.int .i64 am2::.int .i64 am3::.int .i64 am4::.int .i64 am5::.int .i64 am6::.int .i64 am7::.int .i64 am8::.int .i64 am9::.int .i64 am10::.int .i64 am11::.int .u16 ao::.int .i64 ac0::.int .i64 ac1::.int .i64 ac2::.slice aa an ax::.int .i64 ae::.int .u8 as0::.int .u8 as1::.int .u8 as2::.int .u8 as3::.int .u8 as4::.int .u8 as5::.int .u8 as6::.int .u8 as7::.int .u8 as8::.int .i64 as9::.int .u8 as10::.int .i64 as11::.bool as12::.int .i64 as13::[])) 56)) y)
 case first=>
  rcases hx with⟨x1,x2⟩|x1
  all_goals
   go_wp2_with (first|(go_at_call 97;refine pm0 (A9 hsty hB.sty) fun nx=>?_)|(go_at_call 98;refine pm0 (v9 hmat) fun nx=>?_)|(go_at_call 99;refine pm0 (B1 hall) fun nx=>?_)|(go_at_call 100;refine pq0 (zD hdis (hl.ex sk9) hn) fun nx=>?_));go_meet;exact⟨by first|rfl|(congr 1;exact decide_eq_false om0),sk9⟩
 case rest=>
 obtain⟨rfl,y1,rfl⟩:=hcut;clear hx;cases hm:ap7 ⟨⟨⟨am0,am1,am2⟩,⟨am3,am4,am5⟩,⟨am6,am7,am8⟩⟩,⟨am9,am10,am11⟩⟩ ⟨⟨⟨0,0,0⟩,⟨0,0,0⟩,⟨0,0,0⟩⟩,⟨0,0,0⟩⟩
 ·have qM:=Y0 hm;go_wp2_with (first|(go_at_call 97;refine pm0 (A9 hsty hB.sty) fun nx=>?_)|(go_at_call 98;refine pm0 (v9 hmat) fun nx=>?_)|(go_at_call 99;refine pm0 (B1 hall) fun nx=>?_)|(go_at_call 100;refine pq0 (zD hdis (hl.ex sk9) hn) fun nx=>?_));exact bodyPost_ret (v:=.bool false) (by simp[results,Tryz.results51,go_sem]) rfl ⟨by rw[show ze mn tn ⟨⟨1,⟨⟨⟨am0,am1,am2⟩,⟨am3,am4,am5⟩,⟨am6,am7,am8⟩⟩,⟨am9,am10,am11⟩⟩,ao,⟨ac0,ac1,ac2⟩,ae,⟨as0,as1,as2,as3,as4,⟨as5,as6,as7,as8,as9,as10,as11,as12,as13⟩⟩⟩,af⟩=false by simp[ze,L6,zl,hm]],sk9⟩
 have qM:=Y0 hm;by_cases ho:ao=0;rotate_left
 ·have dk:(ao==0)=false:=by rw[beq_eq_false_iff_ne];exact ho
  go_wp2_with (first|(go_at_call 97;refine pm0 (A9 hsty hB.sty) fun nx=>?_)|(go_at_call 98;refine pm0 (v9 hmat) fun nx=>?_)|(go_at_call 99;refine pm0 (B1 hall) fun nx=>?_)|(go_at_call 100;refine pq0 (zD hdis (hl.ex sk9) hn) fun nx=>?_));exact bodyPost_ret (v:=.bool false) (by simp[results,Tryz.results51,go_sem]) rfl ⟨by rw[show ze mn tn ⟨⟨1,⟨⟨⟨am0,am1,am2⟩,⟨am3,am4,am5⟩,⟨am6,am7,am8⟩⟩,⟨am9,am10,am11⟩⟩,ao,⟨ac0,ac1,ac2⟩,ae,⟨as0,as1,as2,as3,as4,⟨as5,as6,as7,as8,as9,as10,as11,as12,as13⟩⟩⟩,af⟩=false by simp[ze,ho]],sk9⟩
 subst ho;cases hc:eqv ⟨ac0,ac1,ac2⟩ ⟨0,0,0⟩
 ·have qV:=X7 hc;go_wp2_with (first|(go_at_call 97;refine pm0 (A9 hsty hB.sty) fun nx=>?_)|(go_at_call 98;refine pm0 (v9 hmat) fun nx=>?_)|(go_at_call 99;refine pm0 (B1 hall) fun nx=>?_)|(go_at_call 100;refine pq0 (zD hdis (hl.ex sk9) hn) fun nx=>?_));exact bodyPost_ret (v:=.bool false) (by simp[results,Tryz.results51,go_sem]) rfl ⟨by rw[show ze mn tn ⟨⟨1,⟨⟨⟨am0,am1,am2⟩,⟨am3,am4,am5⟩,⟨am6,am7,am8⟩⟩,⟨am9,am10,am11⟩⟩,0,⟨ac0,ac1,ac2⟩,ae,⟨as0,as1,as2,as3,as4,⟨as5,as6,as7,as8,as9,as10,as11,as12,as13⟩⟩⟩,af⟩=false by simp[ze,zl,hc]],sk9⟩
 have qV:=X7 hc;by_cases hf0:an=0;rotate_left
 ·have i0:(0:Int)<(an:Int):=om0;go_wp2_with (first|(go_at_call 97;refine pm0 (A9 hsty hB.sty) fun nx=>?_)|(go_at_call 98;refine pm0 (v9 hmat) fun nx=>?_)|(go_at_call 99;refine pm0 (B1 hall) fun nx=>?_)|(go_at_call 100;refine pq0 (zD hdis (hl.ex sk9) hn) fun nx=>?_));exact bodyPost_ret (v:=.bool false) (by simp[results,Tryz.results51,go_sem]) rfl ⟨by rw[show ze mn tn ⟨⟨1,⟨⟨⟨am0,am1,am2⟩,⟨am3,am4,am5⟩,⟨am6,am7,am8⟩⟩,⟨am9,am10,am11⟩⟩,0,⟨ac0,ac1,ac2⟩,ae,⟨as0,as1,as2,as3,as4,⟨as5,as6,as7,as8,as9,as10,as11,as12,as13⟩⟩⟩,af⟩=false by simp[ze,hlen,hf0]],sk9⟩
 subst hf0;obtain rfl:=hl.zero;by_cases he:ae=0;rotate_left
 ·have dk:(ae==0)=false:=by rw[beq_eq_false_iff_ne];exact he
  go_wp2_with (first|(go_at_call 97;refine pm0 (A9 hsty hB.sty) fun nx=>?_)|(go_at_call 98;refine pm0 (v9 hmat) fun nx=>?_)|(go_at_call 99;refine pm0 (B1 hall) fun nx=>?_)|(go_at_call 100;refine pq0 (zD hdis (hl.ex sk9) hn) fun nx=>?_));exact bodyPost_ret (v:=.bool false) (by simp[results,Tryz.results51,go_sem]) rfl ⟨by rw[show ze mn tn ⟨⟨1,⟨⟨⟨am0,am1,am2⟩,⟨am3,am4,am5⟩,⟨am6,am7,am8⟩⟩,⟨am9,am10,am11⟩⟩,0,⟨ac0,ac1,ac2⟩,ae,⟨as0,as1,as2,as3,as4,⟨as5,as6,as7,as8,as9,as10,as11,as12,as13⟩⟩⟩,[]⟩=false by simp[ze,he]],sk9⟩
 subst he;obtain⟨rfl,rfl,rfl⟩:ac0=0∧ac1=0∧ac2=0:=by have:=ac3 hc;simpa using this
 have hall:Q8 ⟨0,0,0⟩ 4096=true:=rfl;have hdis:G8 []=true:=rfl;go_wp2_with (first|(go_at_call 97;refine pm0 (A9 hsty hB.sty) fun nx=>?_)|(go_at_call 98;refine pm0 (v9 hmat) fun nx=>?_)|(go_at_call 99;refine pm0 (B1 hall) fun nx=>?_)|(go_at_call 100;refine pq0 (zD hdis (hl.ex sk9) hn) fun nx=>?_));exact bodyPost_ret (v:=.bool true) (by simp[results,Tryz.results51,go_sem]) rfl ⟨by rw[show ze mn tn ⟨⟨1,⟨⟨⟨am0,am1,am2⟩,⟨am3,am4,am5⟩,⟨am6,am7,am8⟩⟩,⟨am9,am10,am11⟩⟩,0,⟨0,0,0⟩,0,⟨as0,as1,as2,as3,as4,⟨as5,as6,as7,as8,as9,as10,as11,as12,as13⟩⟩⟩,[]⟩=true by simp[ze,hsty,L6,zl,hm,zl,hc,hall,hdis,hy.it]],sk9⟩
end
end Go.Proofs.YtcekcihijdipoaaGreat
