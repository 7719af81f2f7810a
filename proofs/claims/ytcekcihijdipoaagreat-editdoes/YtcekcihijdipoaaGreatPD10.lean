/- A pack of texts: Mesh3, Mesh7, MeshMath3, Mesh11. -/
import Derived.Test.YtcekcihijdipoaaGreatPD9
namespace Go.Proofs.YtcekcihijdipoaaGreat
set_option maxRecDepth 100000
set_option maxHeartbeats 16000000
open Go.RowKit Go.ChangeShapes Go.WideShapes Go.ChangeAt
set_option linter.unusedSimpArgs false
set_option linter.unusedVariables false
attribute [local go_sem] qn qZ A2 zg zz zA t5 qJ zf qO qD t6
section
theorem P6(kind:Int)(n:Nat)(w:World)(h0:0≤kind)(h2:kind≤2)(hn:n≤10000):
  Calls Tryz.prog 181 #[.int .u8 kind,.int .i64 n] w fun e w'=>e=.returned (.bool (M2 kind n))∧Below w.heap.size w w':=by
 rcases(show kind=0∨kind=1∨kind=2 by omega)with rfl|rfl|rfl
 ·by_cases h3:n % 3=0
  ·rw[show M2 0 n=true by simp[M2,h3]];have i3:(n:Int) % 3=0:=om0;go_enter Tryz.func181,Tryz.ntmps181;go_wp2;go_ret;exact⟨rfl,skB⟩
  ·rw[show M2 0 n=false by simp[M2,h3]];have i3:¬(n:Int) % 3=0:=om0;have d3:((n:Int) % 3==0)=false:=by simp[i3]
   go_enter Tryz.func181,Tryz.ntmps181;go_wp2;go_ret;exact⟨rfl,skB⟩
 ·by_cases h3:n=0
  ·subst h3;rw[show M2 1 0=true by simp[M2]];go_enter Tryz.func181,Tryz.ntmps181;go_wp2;go_ret;exact⟨rfl,skB⟩
  ·by_cases h4:3≤n
   ·rw[show M2 1 n=true by simp[M2,h4]];have i3:¬(n:Int)=0:=om0;have d3:((n:Int)==0)=false:=by simp[h3]
    have i4:(3:Int)≤(n:Int):=om0;go_enter Tryz.func181,Tryz.ntmps181;go_wp2;go_ret;exact⟨rfl,skB⟩
   ·rw[show M2 1 n=false by simp[M2,h3,h4]];have i3:¬(n:Int)=0:=om0;have d3:((n:Int)==0)=false:=by simp[h3]
    have i4:¬(3:Int)≤(n:Int):=om0;go_enter Tryz.func181,Tryz.ntmps181;go_wp2;go_ret;exact⟨rfl,skB⟩
 ·by_cases h3:n=0
  ·subst h3;rw[show M2 2 0=true by simp[M2]];go_enter Tryz.func181,Tryz.ntmps181;go_wp2;go_ret;exact⟨rfl,skB⟩
  ·by_cases h4:3≤n
   ·rw[show M2 2 n=true by simp[M2,h4]];have i3:¬(n:Int)=0:=om0;have d3:((n:Int)==0)=false:=by simp[h3]
    have i4:(3:Int)≤(n:Int):=om0;go_enter Tryz.func181,Tryz.ntmps181;go_wp2;go_ret;exact⟨rfl,skB⟩
   ·rw[show M2 2 n=false by simp[M2,h3,h4]];have i3:¬(n:Int)=0:=om0;have d3:((n:Int)==0)=false:=by simp[h3]
    have i4:¬(3:Int)≤(n:Int):=om0;go_enter Tryz.func181,Tryz.ntmps181;go_wp2;go_ret;exact⟨rfl,skB⟩
theorem O1(kind:Int)(ao:Option Addr)(n cap:Nat)(ix:List Int)(w:World)(hl:Lay fI w ao n ix)(hn:n≤10000):
  Calls Tryz.prog 182 #[.agg #[.int .u8 kind,.slice ao n cap]] w fun e w'=>a9W fV w (P8 ⟨kind,ix⟩) e w':=by
 have hlen:=hl.len;by_cases h1:kind=1
 ·subst h1;go_enter Tryz.func182,Tryz.ntmps182;go_wp2_with (first|(go_at_call 191;refine(W4 _ _ _ _ _ (hl.ex skM) hn).mono ?_;rintro e w' ⟨ao1,cap1,rfl,⟨yao1,rfl⟩,hl1⟩)|(go_at_call 192;refine(ZT _ _ _ _ _ (hl.ex skM) hn).mono ?_;rintro e w' ⟨ao1,cap1,rfl,⟨yao1,rfl⟩,hl1⟩)|(go_at_call 193;refine(S2 _ _ _ _ _ (hl.ex skM) hn).mono ?_;rintro e w' ⟨ao1,cap1,rfl,⟨yao1,rfl⟩,hl1⟩));go_ret;exact⟨_,_,_,rfl,skM,by rw[show P8 ⟨1,ix⟩=J1 (L4 ix) (n - 2)by rw[←hlen];rfl];exact hl1.lay⟩
 ·by_cases h2:kind=2
  ·subst h2;go_enter Tryz.func182,Tryz.ntmps182;go_wp2_with (first|(go_at_call 191;refine(W4 _ _ _ _ _ (hl.ex skM) hn).mono ?_;rintro e w' ⟨ao1,cap1,rfl,⟨yao1,rfl⟩,hl1⟩)|(go_at_call 192;refine(ZT _ _ _ _ _ (hl.ex skM) hn).mono ?_;rintro e w' ⟨ao1,cap1,rfl,⟨yao1,rfl⟩,hl1⟩)|(go_at_call 193;refine(S2 _ _ _ _ _ (hl.ex skM) hn).mono ?_;rintro e w' ⟨ao1,cap1,rfl,⟨yao1,rfl⟩,hl1⟩));go_ret;exact⟨_,_,_,rfl,skM,by rw[show P8 ⟨2,ix⟩=J1 (a29 ix) (n - 2)by rw[←hlen];rfl];exact hl1.lay⟩
  go_enter Tryz.func182,Tryz.ntmps182;go_wp2_with (first|(go_at_call 191;refine(W4 _ _ _ _ _ (hl.ex skM) hn).mono ?_;rintro e w' ⟨ao1,cap1,rfl,⟨yao1,rfl⟩,hl1⟩)|(go_at_call 192;refine(ZT _ _ _ _ _ (hl.ex skM) hn).mono ?_;rintro e w' ⟨ao1,cap1,rfl,⟨yao1,rfl⟩,hl1⟩)|(go_at_call 193;refine(S2 _ _ _ _ _ (hl.ex skM) hn).mono ?_;rintro e w' ⟨ao1,cap1,rfl,⟨yao1,rfl⟩,hl1⟩));go_ret;exact⟨_,_,_,rfl,skM,by rw[show P8 ⟨kind,ix⟩=J1 (R4 ix) (n / 3)by rw[←hlen];exact(if_neg h1).trans (if_neg h2)];exact hl1.lay⟩
theorem QY(kind:Int)(ao:Option Addr)(n cap:Nat)(ix:List Int)(w:World)(h0:0≤kind)(hl:Lay fI w ao n ix)(hn:n≤9223372036854775807):
  Calls Tryz.prog 173 #[.agg #[.int .u8 kind,.slice ao n cap]] w fun e w'=>a8s fV w (ak2 ⟨kind,ix⟩) (.int .i64 (N6 ⟨kind,ix⟩)) e w':=by
 have hlen:=hl.len;by_cases h1:2<kind
 ·have he:=ae0 (ix:=ix) h1;rw[he];go_enter Tryz.func173,Tryz.ntmps173;go_wp2_with (first|(go_at_call 181;refine pm0 (P6 _ _ _ h0 om0 om0) fun nx=>?_)|(go_at_call 182;refine(O1 _ _ _ _ _ _ (hl.ex skM) om0).mono ?_;rintro e w' ⟨ao1,m1,cap1,rfl,⟨yao1,rfl⟩,hl1⟩));exact bodyPost_ret (v:=.tuple #[.slice none 0 0,.int .i64 2]) (by simp[results,Tryz.results173,go_sem]) rfl ⟨_,_,_,rfl,skM,by rw[I8 (by rw[he];decide)];exact Lay.nil⟩
 by_cases h2:200<n
 ·have he:=ag1 (ix:=ix) h1 om0;rw[he];have i2:(200:Int)<(n:Int):=om0;go_enter Tryz.func173,Tryz.ntmps173;go_wp2_with (first|(go_at_call 181;refine pm0 (P6 _ _ _ h0 om0 om0) fun nx=>?_)|(go_at_call 182;refine(O1 _ _ _ _ _ _ (hl.ex skM) om0).mono ?_;rintro e w' ⟨ao1,m1,cap1,rfl,⟨yao1,rfl⟩,hl1⟩));exact bodyPost_ret (v:=.tuple #[.slice none 0 0,.int .i64 4]) (by simp[results,Tryz.results173,go_sem]) rfl ⟨_,_,_,rfl,skM,by rw[I8 (by rw[he];decide)];exact Lay.nil⟩
 have i2:¬(200:Int)<(n:Int):=om0;cases h3:M2 kind n
 ·have he:=ao8 (ix:=ix) h1 om0 (by rw[hlen];exact h3);rw[he];go_enter Tryz.func173,Tryz.ntmps173;go_wp2_with (first|(go_at_call 181;refine pm0 (P6 _ _ _ h0 om0 om0) fun nx=>?_)|(go_at_call 182;refine(O1 _ _ _ _ _ _ (hl.ex skM) om0).mono ?_;rintro e w' ⟨ao1,m1,cap1,rfl,⟨yao1,rfl⟩,hl1⟩));exact bodyPost_ret (v:=.tuple #[.slice none 0 0,.int .i64 40]) (by simp[results,Tryz.results173,go_sem]) rfl ⟨_,_,_,rfl,skM,by rw[I8 (by rw[he];decide)];exact Lay.nil⟩
 ·have he:=at9 (ix:=ix) h1 om0 (by rw[hlen];exact h3);rw[he];go_enter Tryz.func173,Tryz.ntmps173;go_wp2_with (first|(go_at_call 181;refine pm0 (P6 _ _ _ h0 om0 om0) fun nx=>?_)|(go_at_call 182;refine(O1 _ _ _ _ _ _ (hl.ex skM) om0).mono ?_;rintro e w' ⟨ao1,m1,cap1,rfl,⟨yao1,rfl⟩,hl1⟩));exact bodyPost_ret (v:=.tuple #[.slice ao1 m1 cap1,.int .i64 0]) (by simp[results,Tryz.results173,go_sem]) rfl ⟨_,_,_,rfl,skM,by rw[H4 he];exact hl1⟩
end
section
attribute [local go_sem] eqarr_40 nearr_40 larr_40
attribute [local go_sem] eqarr_137 nearr_137 larr_137
attribute [local go_sem] isnil_47
attribute [local go_sem] isnil_57
attribute [local go_sem] isnil_58
attribute [local go_sem] isnil_59
theorem a53(kind:Int)(ao:Option Addr)(n cap:Nat)(ix:List Int)(w:World)(h0:0≤kind)(hl:Lay fI w ao n ix)(hn:n≤9223372036854775807)(hb:N6 ⟨kind,ix⟩≠0):
  Calls Tryz.prog 194 #[.agg #[.int .u8 kind,.slice ao n cap]] w fun e w'=>a8s fV w (ak2 ⟨kind,ix⟩) (.int .i64 (N6 ⟨kind,ix⟩)) e w':=by
 have hlen:=hl.len;by_cases h1:2<kind
 ·have he:=ae0 (ix:=ix) h1;rw[he];go_enter Tryz.func194,Tryz.ntmps194;go_wp2;exact bodyPost_ret (v:=.tuple #[.slice none 0 0,.int .i64 2]) (by simp[results,Tryz.results194,go_sem]) rfl ⟨_,_,_,rfl,skM,by rw[I8 (by rw[he];decide)];exact Lay.nil⟩
 by_cases h2:200<n
 ·have he:=ag1 (ix:=ix) h1 om0;rw[he];have i2:(200:Int)<(n:Int):=om0;go_enter Tryz.func194,Tryz.ntmps194;go_wp2;exact bodyPost_ret (v:=.tuple #[.slice none 0 0,.int .i64 4]) (by simp[results,Tryz.results194,go_sem]) rfl ⟨_,_,_,rfl,skM,by rw[I8 (by rw[he];decide)];exact Lay.nil⟩
 have i2:¬(200:Int)<(n:Int):=om0;cases h3:M2 kind n
 ·have he:=ao8 (ix:=ix) h1 om0 (by rw[hlen];exact h3);rw[he];rcases(show kind=0∨kind=1∨kind=2 by omega)with rfl|rfl|rfl
  ·have hz:¬(n:Int) % 3=0:=by simp[M2]at h3;omega
   go_enter Tryz.func194,Tryz.ntmps194;go_wp2;exact bodyPost_ret (v:=.tuple #[.slice none 0 0,.int .i64 40]) (by simp[results,Tryz.results194,go_sem]) rfl ⟨_,_,_,rfl,skM,by rw[I8 (by rw[he];decide)];exact Lay.nil⟩
  ·have hz:n=1∨n=2:=by simp[M2]at h3;omega
   rcases hz with rfl|rfl
   ·go_enter Tryz.func194,Tryz.ntmps194;go_wp2;exact bodyPost_ret (v:=.tuple #[.slice none 0 0,.int .i64 40]) (by simp[results,Tryz.results194,go_sem]) rfl ⟨_,_,_,rfl,skM,by rw[I8 (by rw[he];decide)];exact Lay.nil⟩
   ·go_enter Tryz.func194,Tryz.ntmps194;go_wp2;exact bodyPost_ret (v:=.tuple #[.slice none 0 0,.int .i64 40]) (by simp[results,Tryz.results194,go_sem]) rfl ⟨_,_,_,rfl,skM,by rw[I8 (by rw[he];decide)];exact Lay.nil⟩
  ·have hz:n=1∨n=2:=by simp[M2]at h3;omega
   rcases hz with rfl|rfl
   ·go_enter Tryz.func194,Tryz.ntmps194;go_wp2;exact bodyPost_ret (v:=.tuple #[.slice none 0 0,.int .i64 40]) (by simp[results,Tryz.results194,go_sem]) rfl ⟨_,_,_,rfl,skM,by rw[I8 (by rw[he];decide)];exact Lay.nil⟩
   ·go_enter Tryz.func194,Tryz.ntmps194;go_wp2;exact bodyPost_ret (v:=.tuple #[.slice none 0 0,.int .i64 40]) (by simp[results,Tryz.results194,go_sem]) rfl ⟨_,_,_,rfl,skM,by rw[I8 (by rw[he];decide)];exact Lay.nil⟩
 ·exact absurd (at9 (ix:=ix) h1 om0 (by rw[hlen];exact h3)) hb
theorem a3W(kind:Int)(ao:Option Addr)(n cap:Nat)(ix:List Int)(w:World)(h0:0≤kind)(hl:Lay fI w ao n ix)(he:N6 ⟨kind,ix⟩=0):
  Calls Tryz.prog 194 #[.agg #[.int .u8 kind,.slice ao n cap]] w fun e w'=>a8s fV w (ak2 ⟨kind,ix⟩) (.int .i64 (N6 ⟨kind,ix⟩)) e w':=by
 have hlen:=hl.len;rw[he];have h1:¬2<kind:=fun h=>by rw[ae0 h]at he;cases he
 have h2:¬200<ix.length:=fun h=>by rw[ag1 h1 h]at he;cases he
 have h3:M2 kind n=true:=by
  rw[←hlen];cases h:M2 kind ix.length
  ·rw[ao8 h1 h2 h]at he;cases he
  ·rfl
 rw[hlen]at h2;have i2:¬(200:Int)<(n:Int):=om0;by_cases hn0:n=0
 ·subst hn0;rcases(show kind=0∨kind=1∨kind=2 by omega)with rfl|rfl|rfl
  ·go_enter Tryz.func194,Tryz.ntmps194;go_wp2;refine wp_loop_rounds 1 ?_;rw[rounds_succ];go_wp2;refine wp_loop_rounds 1 ?_;rw[rounds_succ];go_wp2;refine wp_loop_rounds 1 ?_;rw[rounds_succ];go_wp2;exact bodyPost_ret (v:=.tuple #[.slice none 0 0,.int .i64 0]) (by simp[results,Tryz.results194,go_sem]) rfl ⟨_,_,_,rfl,skM,by rw[H4 he,show P8 ⟨0,ix⟩=[]by rw[hl.zero];rfl];exact Lay.nil⟩
  ·go_enter Tryz.func194,Tryz.ntmps194;go_wp2;refine wp_loop_rounds 1 ?_;rw[rounds_succ];go_wp2;refine wp_loop_rounds 1 ?_;rw[rounds_succ];go_wp2;exact bodyPost_ret (v:=.tuple #[.slice none 0 0,.int .i64 0]) (by simp[results,Tryz.results194,go_sem]) rfl ⟨_,_,_,rfl,skM,by rw[H4 he,show P8 ⟨1,ix⟩=[]by rw[hl.zero];rfl];exact Lay.nil⟩
  ·go_enter Tryz.func194,Tryz.ntmps194;go_wp2;refine wp_loop_rounds 1 ?_;rw[rounds_succ];go_wp2;refine wp_loop_rounds 1 ?_;rw[rounds_succ];go_wp2;exact bodyPost_ret (v:=.tuple #[.slice none 0 0,.int .i64 0]) (by simp[results,Tryz.results194,go_sem]) rfl ⟨_,_,_,rfl,skM,by rw[H4 he,show P8 ⟨2,ix⟩=[]by rw[hl.zero];rfl];exact Lay.nil⟩
 have iw3:IntKind.i64.wrap ((n:Int) - 3)=(n:Int) - 3:=L1 (by simp[M2]at h3;split at h3<;>omega);have iw2:IntKind.i64.wrap ((n:Int) - 2)=(n:Int) - 2:=L1 (by simp[M2]at h3;split at h3<;>omega);have i03:(0:Int)≤(n:Int) - 3:=by simp[M2]at h3;split at h3<;>omega
 have i12:(1:Int)≤(n:Int) - 2:=om0;have d1:((n:Int)==1)=false:=by rw[beq_eq_false_iff_ne];omega
 have d2:((n:Int)==2)=false:=by rw[beq_eq_false_iff_ne];omega
 rcases(show kind=0∨kind=1∨kind=2 by omega)with rfl|rfl|rfl
 ·have hz:(n:Int) % 3=0:=by simp[M2]at h3;omega
  go_enter Tryz.func194,Tryz.ntmps194;go_wp2;go_loopw [5,6] (fun v i wr=>∃(k:Nat) (ao':Option Addr) (cap':Nat),k≤n / 3∧i=.int .i64 (3*k:Nat)∧v=.slice ao' k cap'∧(∃y,wr=plus (w.alloc (.cells #[.int .u8 0,.slice ao n cap] 131)) y)∧Own 40 3 fV (w.alloc (.cells #[.int .u8 0,.slice ao n cap] 131)) wr ao' k cap' (J1 (R4 ix) k)) (fun _ i _=>n+2 - (intOf i).toNat)
  case atStart=>exact⟨0,none,0,om0,rfl,rfl,skM,zd⟩
  case round=>
   obtain⟨k,ao',cap',hk,rfl,rfl,⟨y,rfl⟩,hown⟩:=hrel;obtain⟨j,hj⟩:∃j,3*k=j:=⟨_,rfl⟩;rw[hj];by_cases hkl:j+2<n
   ·obtain⟨g,off,rfl,hg,hcell⟩:=hl.some om0;have c0:=Qh hl.len hcell (k:=j) om0;have c1:=Qh hl.len hcell (k:=j+1) om0;have c2:=Qh hl.len hcell (k:=j+2) om0;have ik0:(j:Int)<(n:Int):=om0;have ik1:(j:Int)+1<(n:Int):=om0;have ip1:(0:Int)≤(j:Int)+1:=om0;have iw1:IntKind.i64.wrap ((j:Int)+1)=(j:Int)+1:=L1 om0;have it1:((j:Int)+1).toNat=j+1:=om0;have ik2:(j:Int)+2<(n:Int):=om0;have ip2:(0:Int)≤(j:Int)+2:=om0;have iw2:IntKind.i64.wrap ((j:Int)+2)=(j:Int)+2:=L1 om0;have it2:((j:Int)+2).toNat=j+2:=om0;go_wp2;go_region_held3 (fun w'=>w'.cell? ⟨w.heap.size,1,none⟩=some (.slice (some ⟨g,off,none⟩) n cap)∧w'.cell? ⟨g,off+j,none⟩=some (.int .i64 (nth 0 ix j))∧w'.cell? ⟨g,off+(j+1),none⟩=some (.int .i64 (nth 0 ix (j+1)))∧w'.cell? ⟨g,off+(j+2),none⟩=some (.int .i64 (nth 0 ix (j+2)))) (first|(simp[go_sem,↓IntWalk.iteOmega,c0,c1,c2];done)) (first|(refine P2 (T:=(w.alloc (.cells #[.int .u8 0,.slice (some ⟨g,off,none⟩) n cap] 131))) rfl _ _ rfl a6Q a1x a4o rfl skM (hown.ex skM) rfl (l2:=[R4 ix k]) ⟨rfl,.inr ⟨_,0,rfl,by simp[go_sem];try omega,fun jj u hu=>by match jj,hu with|0,hu=>(simp[fV,R4,hj]at hu;subst hu;simp[go_sem,↓IntWalk.iteOmega])|1,hu=>(simp[fV,R4,hj]at hu;subst hu;simp[go_sem,↓IntWalk.iteOmega])|2,hu=>(simp[fV,R4,hj]at hu;subst hu;simp[go_sem,↓IntWalk.iteOmega])|jj+3,hu=>simp[fV]at hu⟩⟩ om0 dc0 ?_;intro ao' cap' y' hown'));go_wp2;go_roundw
    case rel=>exact⟨k+1,ao',cap',om0,by subst hj;go_num,by subst hj;rfl,⟨y',rfl⟩,by subst hj;rw[←J8];exact hown'⟩
    case measure=>simp[intOf];omega
   ·have ik:¬(j:Int)<(n:Int):=om0;obtain rfl:k=n / 3:=om0;go_wp2;refine wp_loop_rounds 1 ?_;rw[rounds_succ];go_wp2;refine wp_loop_rounds 1 ?_;rw[rounds_succ];go_wp2;exact bodyPost_ret (v:=.tuple #[.slice ao' (n / 3) cap',.int .i64 0]) (by simp[results,Tryz.results194,go_sem]) rfl ⟨_,_,_,rfl,skM,by rw[H4 he,show P8 ⟨0,ix⟩=J1 (R4 ix) (n / 3)by rw[←hlen];rfl];exact hown.lay⟩
 ·go_enter Tryz.func194,Tryz.ntmps194;go_wp2;go_loopw [5,7] (fun v i wr=>∃(k:Nat) (ao':Option Addr) (cap':Nat),k≤n - 2∧i=.int .i64 (k:Nat)∧v=.slice ao' k cap'∧(∃y,wr=plus (w.alloc (.cells #[.int .u8 1,.slice ao n cap] 131)) y)∧Own 40 3 fV (w.alloc (.cells #[.int .u8 1,.slice ao n cap] 131)) wr ao' k cap' (J1 (L4 ix) k)) (fun _ i _=>n+2 - (intOf i).toNat)
  case atStart=>exact⟨0,none,0,om0,rfl,rfl,skM,zd⟩
  case round=>
   obtain⟨k,ao',cap',hk,rfl,rfl,⟨y,rfl⟩,hown⟩:=hrel;obtain⟨j,hj⟩:∃j,k=j:=⟨_,rfl⟩;rw[hj];by_cases hkl:j+2<n
   ·obtain⟨g,off,rfl,hg,hcell⟩:=hl.some om0;have c0:=Qh hl.len hcell (k:=j) om0;have c1:=Qh hl.len hcell (k:=j+1) om0;have c2:=Qh hl.len hcell (k:=j+2) om0;have ik0:(j:Int)<(n:Int):=om0;have ik1:(j:Int)+1<(n:Int):=om0;have ip1:(0:Int)≤(j:Int)+1:=om0;have iw1:IntKind.i64.wrap ((j:Int)+1)=(j:Int)+1:=L1 om0;have it1:((j:Int)+1).toNat=j+1:=om0;have ik2:(j:Int)+2<(n:Int):=om0;have ip2:(0:Int)≤(j:Int)+2:=om0;have iw2:IntKind.i64.wrap ((j:Int)+2)=(j:Int)+2:=L1 om0;have it2:((j:Int)+2).toNat=j+2:=om0;have iq:(j:Int)≤(n:Int) - 3:=om0;subst hj;by_cases np:k % 2=1
    ·have ie:(k:Int) % 2=1:=om0;go_wp2_with (at_builtin;(refine qo (T:=(w.alloc (.cells #[.int .u8 1,.slice (some ⟨g,off,none⟩) n cap] 131))) rfl _ _ rfl a6Q a1x a4o rfl skM (hown.ex skM) rfl (l2:=[L4 ix k]) ⟨rfl,.inr ⟨_,0,rfl,by simp[go_sem];try omega,fun jj u hu=>by match jj,hu with|0,hu=>(simp[fV,L4,np]at hu;subst hu;simp[go_sem,↓IntWalk.iteOmega])|1,hu=>(simp[fV,L4,np]at hu;subst hu;simp[go_sem,↓IntWalk.iteOmega])|2,hu=>(simp[fV,L4,np]at hu;subst hu;simp[go_sem,↓IntWalk.iteOmega])|jj+3,hu=>simp[fV]at hu⟩⟩ om0 dc0 ?_;intro ao' cap' y' hown'));go_roundw
     case rel=>exact⟨k+1,ao',cap',om0,by go_num,by rfl,⟨y',rfl⟩,by rw[←J8];exact hown'⟩
     case measure=>simp[intOf];omega
    ·have ie:¬(k:Int) % 2=1:=om0;go_wp2_with (at_builtin;(refine qo (T:=(w.alloc (.cells #[.int .u8 1,.slice (some ⟨g,off,none⟩) n cap] 131))) rfl _ _ rfl a6Q a1x a4o rfl skM (hown.ex skM) rfl (l2:=[L4 ix k]) ⟨rfl,.inr ⟨_,0,rfl,by simp[go_sem];try omega,fun jj u hu=>by match jj,hu with|0,hu=>(simp[fV,L4,np]at hu;subst hu;simp[go_sem,↓IntWalk.iteOmega])|1,hu=>(simp[fV,L4,np]at hu;subst hu;simp[go_sem,↓IntWalk.iteOmega])|2,hu=>(simp[fV,L4,np]at hu;subst hu;simp[go_sem,↓IntWalk.iteOmega])|jj+3,hu=>simp[fV]at hu⟩⟩ om0 dc0 ?_;intro ao' cap' y' hown'));go_roundw
     case rel=>exact⟨k+1,ao',cap',om0,by go_num,by rfl,⟨y',rfl⟩,by rw[←J8];exact hown'⟩
     case measure=>simp[intOf];omega
   ·have ik:¬(j:Int)≤(n:Int) - 3:=om0;subst hj;obtain rfl:k=n - 2:=om0;go_wp2;refine wp_loop_rounds 1 ?_;rw[rounds_succ];go_wp2;exact bodyPost_ret (v:=.tuple #[.slice ao' (n - 2) cap',.int .i64 0]) (by simp[results,Tryz.results194,go_sem]) rfl ⟨_,_,_,rfl,skM,by rw[H4 he,show P8 ⟨1,ix⟩=J1 (L4 ix) (n - 2)by rw[←hlen];rfl];exact hown.lay⟩
 ·go_enter Tryz.func194,Tryz.ntmps194;go_wp2;refine wp_loop_rounds 1 ?_;rw[rounds_succ];go_wp2;go_loopw [5,10] (fun v i wr=>∃(k:Nat) (ao':Option Addr) (cap':Nat),k≤n - 2∧i=.int .i64 (k+1:Nat)∧v=.slice ao' k cap'∧(∃y,wr=plus (w.alloc (.cells #[.int .u8 2,.slice ao n cap] 131)) y)∧Own 40 3 fV (w.alloc (.cells #[.int .u8 2,.slice ao n cap] 131)) wr ao' k cap' (J1 (a29 ix) k)) (fun _ i _=>n+2 - (intOf i).toNat)
  case atStart=>exact⟨0,none,0,om0,rfl,rfl,skM,zd⟩
  case round=>
   obtain⟨k,ao',cap',hk,rfl,rfl,⟨y,rfl⟩,hown⟩:=hrel;obtain⟨j,hj⟩:∃j,k+1=j:=⟨_,rfl⟩;rw[hj];by_cases hkl:j+1<n
   ·obtain⟨g,off,rfl,hg,hcell⟩:=hl.some om0;have z0:=Qh hl.len hcell (k:=0) om0;rw[Nat.add_zero]at z0;have c0:=Qh hl.len hcell (k:=j) om0;have c1:=Qh hl.len hcell (k:=j+1) om0;have iq:(j:Int)≤(n:Int) - 2:=om0;have iz:(0:Int)<(n:Int):=om0;have iz1:0<n:=om0;have iz2:¬n=0:=om0;have iz3:¬(n:Int)≤0:=om0;have ik0:(j:Int)<(n:Int):=om0;have ik1:(j:Int)+1<(n:Int):=om0;have ip1:(0:Int)≤(j:Int)+1:=om0;have iw1:IntKind.i64.wrap ((j:Int)+1)=(j:Int)+1:=L1 om0;have it1:((j:Int)+1).toNat=j+1:=om0;go_wp2;go_region_held3 (fun w'=>w'.cell? ⟨w.heap.size,1,none⟩=some (.slice (some ⟨g,off,none⟩) n cap)∧w'.cell? ⟨g,off,none⟩=some (.int .i64 (nth 0 ix 0))∧w'.cell? ⟨g,off+j,none⟩=some (.int .i64 (nth 0 ix j))∧w'.cell? ⟨g,off+(j+1),none⟩=some (.int .i64 (nth 0 ix (j+1)))) (first|(simp[go_sem,↓IntWalk.iteOmega,z0,c0,c1];done)) (first|(refine P2 (T:=(w.alloc (.cells #[.int .u8 2,.slice (some ⟨g,off,none⟩) n cap] 131))) rfl _ _ rfl a6Q a1x a4o rfl skM (hown.ex skM) rfl (l2:=[a29 ix k]) ⟨rfl,.inr ⟨_,0,rfl,by simp[go_sem];try omega,fun jj u hu=>by match jj,hu with|0,hu=>(simp[fV,a29,show k+1=j from hj,show k+2=j+1 by omega]at hu;subst hu;simp[go_sem,↓IntWalk.iteOmega])|1,hu=>(simp[fV,a29,show k+1=j from hj,show k+2=j+1 by omega]at hu;subst hu;simp[go_sem,↓IntWalk.iteOmega])|2,hu=>(simp[fV,a29,show k+1=j from hj,show k+2=j+1 by omega]at hu;subst hu;simp[go_sem,↓IntWalk.iteOmega])|jj+3,hu=>simp[fV]at hu⟩⟩ om0 dc0 ?_;intro ao' cap' y' hown'));go_wp2;go_roundw
    case rel=>exact⟨k+1,ao',cap',om0,by subst hj;go_num,by subst hj;rfl,⟨y',rfl⟩,by subst hj;rw[←J8];exact hown'⟩
    case measure=>simp[intOf];omega
   ·have ik:¬(j:Int)≤(n:Int) - 2:=om0;obtain rfl:k=n - 2:=om0;go_wp2;exact bodyPost_ret (v:=.tuple #[.slice ao' (n - 2) cap',.int .i64 0]) (by simp[results,Tryz.results194,go_sem]) rfl ⟨_,_,_,rfl,skM,by rw[H4 he,show P8 ⟨2,ix⟩=J1 (a29 ix) (n - 2)by rw[←hlen];rfl];exact hown.lay⟩
theorem W0(kind:Int)(ao:Option Addr)(n cap:Nat)(ix:List Int)(w:World)(h0:0≤kind)(hl:Lay fI w ao n ix)(hn:n≤9223372036854775807):
  Calls Tryz.prog 194 #[.agg #[.int .u8 kind,.slice ao n cap]] w fun e w'=>a8s fV w (ak2 ⟨kind,ix⟩) (.int .i64 (N6 ⟨kind,ix⟩)) e w':=by
 by_cases he:N6 ⟨kind,ix⟩=0
 ·exact a3W kind ao n cap ix w h0 hl he
 ·exact a53 kind ao n cap ix w h0 hl hn he
end
section
open Go.RowKit
def vOk (v:V3):Bool:=[v.x,v.y,v.z].all (inR (-1024) 1024)
def uOk (p:Int × Int):Bool:=[p.1,p.2].all (inR 0 255)
def pOk (nv:Nat) (p:Pr):Bool:=decide (N6 p=0)&&p.ix.all (inR 0 ((nv:Int) - 1))
def a5W (ps:List Pr) (k:Nat):List V3:=(ps.take k).flatMap P8
def T4 (ps:List Pr) (k:Nat):Nat:=(a5W ps k).length
def az5 (nv:Nat) (ps:List Pr):Bool:=ps.all (pOk nv)&&decide (T4 ps ps.length≤64)
def ZP (m:Ms):Bool:=m.vs.all vOk&&m.uv.length==m.vs.length&&m.uv.all uOk&&az5 m.vs.length m.ps
def a9O (m:Ms):Prop:=64<m.vs.length∨64<m.uv.length∨16<m.ps.length
def L3 (m:Ms):Int:=if 64<m.vs.length∨64<m.uv.length∨16<m.ps.length then 4 else if ZP m=true then 0 else 40
def a98 (m:Ms):List V3:=if L3 m=0 then a5W m.ps m.ps.length else[]
theorem a0C{ps:List Pr}{k:Nat}(hk:k<ps.length):a5W ps (k+1)=a5W ps k++P8 (nth dPr ps k):=by
 unfold a5W;rw[P1 (d:=dPr) hk,List.flatMap_append];simp
theorem af7{ps:List Pr}{k:Nat}(hk:k<ps.length):T4 ps (k+1)=T4 ps k+(P8 (nth dPr ps k)).length:=by
 unfold T4;rw[a0C hk,List.length_append]
theorem ae5{p:Pr}(h:N6 p=0):(P8 p).length≤200:=by
 have h1:=a4Y p;unfold N6 at h;split at h
 ·cases h
 ·split at h
  ·cases h
  ·omega
theorem a7g{p:Pr}(h:N6 p=0):p.ix.length≤200:=by
 unfold N6 at h;split at h
 ·cases h
 ·split at h
  ·cases h
  ·omega
theorem ay0{ps:List Pr}:∀{k:Nat},k≤ps.length→(∀j,j<k→N6 (nth dPr ps j)=0)→T4 ps k≤200*k
 |0,_,_=>by simp[T4,a5W]
 |k+1,hk,h=>by
  rw[af7 om0];have h1:=ay0 (k:=k) om0 (fun j hj=>h j om0);have h2:=ae5 (h k om0);omega
theorem a7S{nv:Nat}{p:Pr}(h:pOk nv p=true):N6 p=0:=by
 simp only[pOk,Bool.and_eq_true,decide_eq_true_eq]at h;exact h.1
theorem Zq{nv:Nat}{p:Pr}(h:N6 p≠0):pOk nv p=false:=by simp[pOk,h]
theorem a2O{nv:Nat}{p:Pr}(h:p.ix.all (inR 0 ((nv:Int) - 1))=false):pOk nv p=false:=by rw[pOk,h,Bool.and_false]
theorem a41{nv:Nat}{p:Pr}(h:N6 p=0)(h2:p.ix.all (inR 0 ((nv:Int) - 1))=true):pOk nv p=true:=by rw[pOk,h2,Bool.and_true,decide_eq_true_eq];exact h
theorem a5s{nv:Nat}{ps:List Pr}{k:Nat}(h:∀j,j<k→pOk nv (nth dPr ps j)=true):∀j,j<k→N6 (nth dPr ps j)=0:=fun j hj=>a7S (h j hj)
end
section
attribute [local go_sem] eqarr_40 nearr_40 larr_40
attribute [local go_sem] eqarr_137 nearr_137 larr_137
attribute [local go_sem] isnil_47
attribute [local go_sem] isnil_57
attribute [local go_sem] isnil_58
attribute [local go_sem] isnil_59
def ah7 (nv:Nat) (ps:List Pr):Bool:=ps.all (pOk nv)
def R7 (nv:Nat) (ps:List Pr):List V3:=if ah7 nv ps=true then a5W ps ps.length else[]
theorem ao5(va ua pa:Option Addr)(vn vc un uc pn pc:Nat)(hs:List PH)(ps:List Pr)(w:World)(hpl:Lay fP w pa pn hs)(hpp:M3 w hs ps)(hvn:vn≤10000)(hpn:pn≤100):
  Calls Tryz.prog 184 #[.agg #[.slice va vn vc,.slice ua un uc,.slice pa pn pc]] w fun e w'=>a8s fV w (R7 vn ps) (.bool (ah7 vn ps)) e w':=by
 have hpl1:=hpl.len;have hpl2:=hpp.len;have iwv:IntKind.i64.wrap ((vn:Int) - 1)=(vn:Int) - 1:=by
  simp[IntKind.wrap,IntKind.bits,IntKind.signed];omega
 go_enter Tryz.func184,Tryz.ntmps184;go_wp2;go_loopw [4,5] (fun v i wr=>∃(k:Nat) (ao':Option Addr) (cap':Nat),k≤pn∧v=.slice ao' (T4 ps k) cap'∧i=.int .i64 k∧(∀j,j<k→pOk vn (nth dPr ps j)=true)∧(∃y,wr=plus (w.alloc (.cells #[.slice va vn vc,.slice ua un uc,.slice pa pn pc] 61)) y)∧Own 40 3 fV (w.alloc (.cells #[.slice va vn vc,.slice ua un uc,.slice pa pn pc] 61)) wr ao' (T4 ps k) cap' (a5W ps k)) (fun _ i _=>pn - (intOf i).toNat)
 case atStart=>exact⟨0,none,0,Nat.zero_le _,rfl,rfl,fun j hj=>om0,skM,zd⟩
 case round=>
  obtain⟨k,ao',cap',hk,rfl,rfl,hs1,⟨x,rfl⟩,hown⟩:=hrel;have hT:=ay0 (ps:=ps) (k:=k) om0 (a5s hs1);by_cases hkl:k<pn
  ·obtain⟨g,off,rfl,hg,hcell⟩:=hpl.some om0;have hsucc:=af7 (ps:=ps) (k:=k) om0;have hsucc2:=a0C (ps:=ps) (k:=k) om0;obtain⟨d0,d1⟩:=a1o hpl.len hcell (k:=k) hkl;have hp:=hpp.one k (by rw[hpl.len];exact hkl);generalize hpe:nth dPr ps k=p at*;generalize hhe:nth dPH hs k=hh at*;obtain⟨kind,ao1,n1,cap1⟩:=hh;obtain⟨kind2,ix⟩:=p;obtain⟨hk1,hk2,hk3,hk4,hk5,hk6⟩:=hp;simp only at d0 d1 hk1 hk2 hk3 hk4 hk5 hk6;subst hk1;have ik:(k:Int)<(pn:Int):=om0;have hixl:=hk6.len;rcases a2N ⟨kind,ix⟩with he|he|he|he
   ·go_wp2_with (go_at_call 194;refine(W0 _ _ _ _ ix _ hk2 (hk6.ex snM) hk4).mono ?_;rintro e w1 ⟨ao2,m1,cap2,rfl,hw1,hl1⟩;rw[he];have a0:w1.cell? ⟨w.heap.size,0,none⟩=some (.slice va vn vc):=qf hw1 (by simp[go_sem,↓IntWalk.iteOmega]);have a2:w1.cell? ⟨w.heap.size,2,none⟩=some (.slice (some ⟨g,off,none⟩) pn pc):=qf hw1 (by simp[go_sem,↓IntWalk.iteOmega]);have hz1:=zC a0;have e1:=qf (snM:∃y,w1=plus w y) d1;have hge:=zC e1;have hixw:=hk6.ex (w':=w1) snM);have hno:ah7 vn ps=false:=by rw[ah7,C1 (d:=dPr) (k:=k) om0 (by rw[hpe];exact Zq (by rw[he];decide))]
    exact bodyPost_ret (v:=.tuple #[.slice none 0 0,.bool false]) (by simp[results,Tryz.results184,go_sem]) rfl ⟨_,_,_,by rw[hno],snM,by rw[R7,hno];exact Lay.nil⟩
   ·go_wp2_with (go_at_call 194;refine(W0 _ _ _ _ ix _ hk2 (hk6.ex snM) hk4).mono ?_;rintro e w1 ⟨ao2,m1,cap2,rfl,hw1,hl1⟩;rw[he];have a0:w1.cell? ⟨w.heap.size,0,none⟩=some (.slice va vn vc):=qf hw1 (by simp[go_sem,↓IntWalk.iteOmega]);have a2:w1.cell? ⟨w.heap.size,2,none⟩=some (.slice (some ⟨g,off,none⟩) pn pc):=qf hw1 (by simp[go_sem,↓IntWalk.iteOmega]);have hz1:=zC a0;have e1:=qf (snM:∃y,w1=plus w y) d1;have hge:=zC e1;have hixw:=hk6.ex (w':=w1) snM);have hno:ah7 vn ps=false:=by rw[ah7,C1 (d:=dPr) (k:=k) om0 (by rw[hpe];exact Zq (by rw[he];decide))]
    exact bodyPost_ret (v:=.tuple #[.slice none 0 0,.bool false]) (by simp[results,Tryz.results184,go_sem]) rfl ⟨_,_,_,by rw[hno],snM,by rw[R7,hno];exact Lay.nil⟩
   ·go_wp2_with (go_at_call 194;refine(W0 _ _ _ _ ix _ hk2 (hk6.ex snM) hk4).mono ?_;rintro e w1 ⟨ao2,m1,cap2,rfl,hw1,hl1⟩;rw[he];have a0:w1.cell? ⟨w.heap.size,0,none⟩=some (.slice va vn vc):=qf hw1 (by simp[go_sem,↓IntWalk.iteOmega]);have a2:w1.cell? ⟨w.heap.size,2,none⟩=some (.slice (some ⟨g,off,none⟩) pn pc):=qf hw1 (by simp[go_sem,↓IntWalk.iteOmega]);have hz1:=zC a0;have e1:=qf (snM:∃y,w1=plus w y) d1;have hge:=zC e1;have hixw:=hk6.ex (w':=w1) snM);have hno:ah7 vn ps=false:=by rw[ah7,C1 (d:=dPr) (k:=k) om0 (by rw[hpe];exact Zq (by rw[he];decide))]
    exact bodyPost_ret (v:=.tuple #[.slice none 0 0,.bool false]) (by simp[results,Tryz.results184,go_sem]) rfl ⟨_,_,_,by rw[hno],snM,by rw[R7,hno];exact Lay.nil⟩
   have h200:=a7g he;have h201:=ae5 he;simp only at h200;go_wp2_with (go_at_call 194;refine(W0 _ _ _ _ ix _ hk2 (hk6.ex snM) hk4).mono ?_;rintro e w1 ⟨ao2,m1,cap2,rfl,hw1,hl1⟩;rw[he];have a0:w1.cell? ⟨w.heap.size,0,none⟩=some (.slice va vn vc):=qf hw1 (by simp[go_sem,↓IntWalk.iteOmega]);have a2:w1.cell? ⟨w.heap.size,2,none⟩=some (.slice (some ⟨g,off,none⟩) pn pc):=qf hw1 (by simp[go_sem,↓IntWalk.iteOmega]);have hz1:=zC a0;have e1:=qf (snM:∃y,w1=plus w y) d1;have hge:=zC e1;have hixw:=hk6.ex (w':=w1) snM);rw[H4 he]at hl1;have hm1:=hl1.len;go_loopw [8] (fun i wr=>∃q:Nat,q≤n1∧i=.int .i64 q∧(∀j,j<q→inR 0 ((vn:Int) - 1) (nth 0 ix j)=true)∧∃x,wr=plus w1 x) (fun i _=>n1 - (intOf i).toNat)
   case atStart=>exact⟨0,Nat.zero_le _,rfl,fun j hj=>om0,skM⟩
   case round=>
    obtain⟨q,hq,rfl,hin,x2,rfl⟩:=hrel;by_cases hql:q<n1
    ·have iq:(q:Int)<(n1:Int):=om0;obtain⟨gi,oi,rfl,hgi,hci⟩:=hixw.some om0;have c0:=Qh hixw.len hci hql;cases hi:inR 0 ((vn:Int) - 1) (nth 0 ix q)
     ·go_wp2;refine qg kr0 kr0 ?_
      (repeat(go_big_quiet_step ((go_at_call 183;exact C8 (R3 _ _ _ _)))))
      refine wpQuiet_nil ?_;rintro _ ⟨x2,rfl⟩;go_wp2;have hno:ah7 vn ps=false:=by rw[ah7,C1 (d:=dPr) (k:=k) om0 (by rw[hpe];exact a2O (C1 (d:=0) (k:=q) (by rw[hk6.len];exact hql) hi))]
      exact bodyPost_ret (v:=.tuple #[.slice none 0 0,.bool false]) (by simp[results,Tryz.results184,go_sem]) rfl ⟨_,_,_,by rw[hno],snM,by rw[R7,hno];exact Lay.nil⟩
     ·go_wp2;refine qg kr0 kr0 ?_
      (repeat(go_big_quiet_step ((go_at_call 183;exact C8 (R3 _ _ _ _)))))
      refine wpQuiet_nil ?_;rintro _ ⟨x2,rfl⟩;go_wp2;go_roundw
      case rel=>exact⟨q+1,om0,by go_num,C4 hin hi,skM⟩
      case measure=>simp[intOf];omega
    ·have iq:¬(q:Int)<(n1:Int):=om0;have hall:ix.all (inR 0 ((vn:Int) - 1))=true:=K5 (d:=0) (fun j hj=>hin j om0);go_wp2_with (at_builtin;refine qo (T:=(w.alloc (.cells #[.slice va vn vc,.slice ua un uc,.slice (some ⟨g,off,none⟩) pn pc] 61))) rfl _ _ rfl a6Q a1x a4o rfl snM (hown.ex snM) rfl (hl1.ex snM) om0 dc0 ?_;intro ao' cap' y' hown');go_roundw
     case rel=>exact⟨k+1,ao',cap',om0,by rw[hsucc,hm1],by go_num,C4 hs1 (by rw[hpe];exact a41 he hall),snM,by rw[hsucc2,hsucc,hm1];exact hown'⟩
     case measure=>simp[intOf];omega
  ·have ik:¬(k:Int)<(pn:Int):=om0;obtain rfl:k=pn:=om0;go_wp2;have hok:ah7 vn ps=true:=K5 (d:=dPr) (fun j hj=>hs1 j om0);exact bodyPost_ret (v:=.tuple #[.slice ao' (T4 ps k) cap',.bool true]) (by simp[results,Tryz.results184,go_sem]) rfl ⟨_,_,_,by rw[hok],snM,by rw[R7,if_pos hok,←hpl2,hpl1];exact hown.lay⟩
end
end Go.Proofs.YtcekcihijdipoaaGreat
