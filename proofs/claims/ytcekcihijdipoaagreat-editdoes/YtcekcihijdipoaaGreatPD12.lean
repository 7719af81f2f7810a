/- A pack of texts: Ed5, EdLs, LoadPart, StorePart, EdBox, Mesh5, Mesh13, Mesh15. -/
import Derived.Laws.Tables
import Derived.Test.YtcekcihijdipoaaGreatPD11
namespace Go.Proofs.YtcekcihijdipoaaGreat
set_option maxRecDepth 100000
set_option maxHeartbeats 16000000
open Go.RowKit Go.ChangeShapes Go.WideShapes Go.ChangeAt
set_option linter.unusedSimpArgs false
set_option linter.unusedVariables false
attribute [local go_sem] qn qZ A2 zg zz zA t5 qJ zf qO qD t6
section
def ldN (a:Addr) (n:Nat):Sem (Array Value):=loadCellsFrom a 0 n #[]
theorem a71(w:World)(o:Obj):(w.alloc o).heap[w.heap.size]?=some o:=by rw[qe,if_pos rfl]
theorem a43{ak am0 am1 am2 am3 am4 am5 am6 am7 am8 am9 am10 am11 ao ac0 ac1 ac2 ae as0 as1 as2 as3 as4 as5 as6 as7 as8 as9 as10 as11 as13:Int}{as12:Bool}{aa:Option Addr}{an ax:Nat}{af:List Int}{bk bm0 bm1 bm2 bm3 bm4 bm5 bm6 bm7 bm8 bm9 bm10 bm11 bo bc0 bc1 bc2 be bs0 bs1 bs2 bs3 bs4 bs5 bs6 bs7 bs8 bs9 bs10 bs11 bs13:Int}{bs12:Bool}{ba:Option Addr}{bn bx:Nat}{bf:List Int}{w:World}{b:Bool}(h:z7 ⟨⟨ak,⟨⟨⟨am0,am1,am2⟩,⟨am3,am4,am5⟩,⟨am6,am7,am8⟩⟩,⟨am9,am10,am11⟩⟩,ao,⟨ac0,ac1,ac2⟩,ae,⟨as0,as1,as2,as3,as4,⟨as5,as6,as7,as8,as9,as10,as11,as12,as13⟩⟩⟩,af⟩ ⟨⟨bk,⟨⟨⟨bm0,bm1,bm2⟩,⟨bm3,bm4,bm5⟩,⟨bm6,bm7,bm8⟩⟩,⟨bm9,bm10,bm11⟩⟩,bo,⟨bc0,bc1,bc2⟩,be,⟨bs0,bs1,bs2,bs3,bs4,⟨bs5,bs6,bs7,bs8,bs9,bs10,bs11,bs12,bs13⟩⟩⟩,bf⟩=b)(hl:Lay fI w aa an af)(hl2:Lay fI w ba bn bf)(hn:an≤10000)(hn2:bn≤10000):
  Calls Tryz.prog 24 #[.agg (List.toArray (.int .u8 ak::.int .i64 am0::.int .i64 am1::.int .i64 am2::.int .i64 am3::.int .i64 am4::.int .i64 am5::.int .i64 am6::.int .i64 am7::.int .i64 am8::.int .i64 am9::.int .i64 am10::.int .i64 am11::.int .u16 ao::.int .i64 ac0::.int .i64 ac1::.int .i64 ac2::.slice aa an ax::.int .i64 ae::.int .u8 as0::.int .u8 as1::.int .u8 as2::.int .u8 as3::.int .u8 as4::.int .u8 as5::.int .u8 as6::.int .u8 as7::.int .u8 as8::.int .i64 as9::.int .u8 as10::.int .i64 as11::.bool as12::.int .i64 as13::[])),.agg (List.toArray (.int .u8 bk::.int .i64 bm0::.int .i64 bm1::.int .i64 bm2::.int .i64 bm3::.int .i64 bm4::.int .i64 bm5::.int .i64 bm6::.int .i64 bm7::.int .i64 bm8::.int .i64 bm9::.int .i64 bm10::.int .i64 bm11::.int .u16 bo::.int .i64 bc0::.int .i64 bc1::.int .i64 bc2::.slice ba bn bx::.int .i64 be::.int .u8 bs0::.int .u8 bs1::.int .u8 bs2::.int .u8 bs3::.int .u8 bs4::.int .u8 bs5::.int .u8 bs6::.int .u8 bs7::.int .u8 bs8::.int .i64 bs9::.int .u8 bs10::.int .i64 bs11::.bool bs12::.int .i64 bs13::[]))] w fun e w'=>e=.returned (.bool b)∧∃y,w'=plus w y:=h▸ag8 ak am0 am1 am2 am3 am4 am5 am6 am7 am8 am9 am10 am11 ao ac0 ac1 ac2 ae as0 as1 as2 as3 as4 as5 as6 as7 as8 as9 as10 as11 as13 as12 aa an ax af bk bm0 bm1 bm2 bm3 bm4 bm5 bm6 bm7 bm8 bm9 bm10 bm11 bo bc0 bc1 bc2 be bs0 bs1 bs2 bs3 bs4 bs5 bs6 bs7 bs8 bs9 bs10 bs11 bs13 bs12 ba bn bx bf w hl hl2 hn hn2
theorem a08{h h2:NH}{n n2:Nd}{w:World}(hN:G0 w h n)(hN2:G0 w h2 n2)(s1:h.n≤10000)(s2:h2.n≤10000){b:Bool}(hb:z7 n n2=b):
  Calls Tryz.prog 24 #[vN h,vN h2] w fun e w'=>e=.returned (.bool b)∧∃y,w'=plus w y:=by
 subst hb;obtain⟨⟨ak,⟨⟨⟨am0,am1,am2⟩,⟨am3,am4,am5⟩,⟨am6,am7,am8⟩⟩,⟨am9,am10,am11⟩⟩,ao,⟨ac0,ac1,ac2⟩,ae,⟨as0,as1,as2,as3,as4,⟨as5,as6,as7,as8,as9,as10,as11,as12,as13⟩⟩⟩,aa,an,ax⟩:=h;obtain⟨⟨bk,⟨⟨⟨bm0,bm1,bm2⟩,⟨bm3,bm4,bm5⟩,⟨bm6,bm7,bm8⟩⟩,⟨bm9,bm10,bm11⟩⟩,bo,⟨bc0,bc1,bc2⟩,be,⟨bs0,bs1,bs2,bs3,bs4,⟨bs5,bs6,bs7,bs8,bs9,bs10,bs11,bs12,bs13⟩⟩⟩,ba,bn,bx⟩:=h2;obtain⟨f,far⟩:=n;obtain⟨f2,far2⟩:=n2;obtain rfl:=hN.f;obtain rfl:=hN2.f;exact ag8 _ _ _ _ _ _ _ _ _ _ _ _ _ _ _ _ _ _ _ _ _ _ _ _ _ _ _ _ _ _ _ _ _ _ _ far _ _ _ _ _ _ _ _ _ _ _ _ _ _ _ _ _ _ _ _ _ _ _ _ _ _ _ _ _ _ _ _ _ _ _ far2 w hN.lay hN2.lay s1 s2
theorem a9b:NfB nf0:=⟨⟨dc0,dc0⟩,⟨dc0,dc0⟩,⟨⟨dc0,dc0⟩,⟨dc0,dc0⟩,⟨dc0,dc0⟩,⟨dc0,dc0⟩,⟨dc0,dc0⟩,⟨⟨dc0,dc0⟩,⟨dc0,dc0⟩,⟨dc0,dc0⟩,⟨dc0,dc0⟩,⟨dc0,dc0⟩⟩⟩⟩
theorem a7f(w:World):G0 w nh0 nd0:=⟨rfl,a9b,dc0,dc0,fun _=>⟨rfl,rfl⟩,Lay.nil⟩
theorem ar8(w:World):(Instr.build 56 #[]).run Tryz.prog w=.ok (.agg (List.toArray (.int .u8 0::.int .i64 0::.int .i64 0::.int .i64 0::.int .i64 0::.int .i64 0::.int .i64 0::.int .i64 0::.int .i64 0::.int .i64 0::.int .i64 0::.int .i64 0::.int .i64 0::.int .u16 0::.int .i64 0::.int .i64 0::.int .i64 0::.slice none 0 0::.int .i64 0::.int .u8 0::.int .u8 0::.int .u8 0::.int .u8 0::.int .u8 0::.int .u8 0::.int .u8 0::.int .u8 0::.int .u8 0::.int .i64 0::.int .u8 0::.int .i64 0::.bool false::.int .i64 0::[]))) w:=run_build w 56 #[] _ kr0
theorem a3X(ak am0 am1 am2 am3 am4 am5 am6 am7 am8 am9 am10 am11 ao ac0 ac1 ac2 ae as0 as1 as2 as3 as4 as5 as6 as7 as8 as9 as10 as11 as13:Int)(as12:Bool)(aa:Option Addr)(an ax:Nat)(af:List Int)(w:World)(hl:Lay fI w aa an af)(s1:an≤10000):
  Calls Tryz.prog 90 #[.agg (List.toArray (.int .u8 ak::.int .i64 am0::.int .i64 am1::.int .i64 am2::.int .i64 am3::.int .i64 am4::.int .i64 am5::.int .i64 am6::.int .i64 am7::.int .i64 am8::.int .i64 am9::.int .i64 am10::.int .i64 am11::.int .u16 ao::.int .i64 ac0::.int .i64 ac1::.int .i64 ac2::.slice aa an ax::.int .i64 ae::.int .u8 as0::.int .u8 as1::.int .u8 as2::.int .u8 as3::.int .u8 as4::.int .u8 as5::.int .u8 as6::.int .u8 as7::.int .u8 as8::.int .i64 as9::.int .u8 as10::.int .i64 as11::.bool as12::.int .i64 as13::[]))] w fun e w'=>e=.returned (.bool (z7 ⟨⟨ak,⟨⟨⟨am0,am1,am2⟩,⟨am3,am4,am5⟩,⟨am6,am7,am8⟩⟩,⟨am9,am10,am11⟩⟩,ao,⟨ac0,ac1,ac2⟩,ae,⟨as0,as1,as2,as3,as4,⟨as5,as6,as7,as8,as9,as10,as11,as12,as13⟩⟩⟩,af⟩ nd0))∧∃y,w'=plus w y:=by
 obtain⟨b,hb⟩:∃b,z7 ⟨⟨ak,⟨⟨⟨am0,am1,am2⟩,⟨am3,am4,am5⟩,⟨am6,am7,am8⟩⟩,⟨am9,am10,am11⟩⟩,ao,⟨ac0,ac1,ac2⟩,ae,⟨as0,as1,as2,as3,as4,⟨as5,as6,as7,as8,as9,as10,as11,as12,as13⟩⟩⟩,af⟩ nd0=b:=⟨_,rfl⟩;rw[hb];have kB:=ar8;have kL:=a71 w (.cells ((List.toArray (.int .u8 ak::.int .i64 am0::.int .i64 am1::.int .i64 am2::.int .i64 am3::.int .i64 am4::.int .i64 am5::.int .i64 am6::.int .i64 am7::.int .i64 am8::.int .i64 am9::.int .i64 am10::.int .i64 am11::.int .u16 ao::.int .i64 ac0::.int .i64 ac1::.int .i64 ac2::.slice aa an ax::.int .i64 ae::.int .u8 as0::.int .u8 as1::.int .u8 as2::.int .u8 as3::.int .u8 as4::.int .u8 as5::.int .u8 as6::.int .u8 as7::.int .u8 as8::.int .i64 as9::.int .u8 as10::.int .i64 as11::.bool as12::.int .i64 as13::[]))) 56);go_enter Tryz.func90,Tryz.ntmps90;go_wp2_with (first|(refine wpList_load_row rfl 56 _ rfl (w.heap.size) rfl _ _ _ _ kL Tryz.underlying56 rfl kr0 ?_)|(go_at_call 24;refine pq0 (a43 hb (hl.ex sk9) Lay.nil s1 dc0) fun nx=>?_));exact bodyPost_ret (v:=.bool b) (by simp[results,Tryz.results90,go_sem]) rfl ⟨rfl,sk9⟩
theorem Zb{h:NH}{n:Nd}{w:World}(hN:G0 w h n)(s1:h.n≤10000){b:Bool}(hb:z7 n nd0=b):
  Calls Tryz.prog 90 #[vN h] w fun e w'=>e=.returned (.bool b)∧∃y,w'=plus w y:=by
 subst hb;obtain⟨⟨ak,⟨⟨⟨am0,am1,am2⟩,⟨am3,am4,am5⟩,⟨am6,am7,am8⟩⟩,⟨am9,am10,am11⟩⟩,ao,⟨ac0,ac1,ac2⟩,ae,⟨as0,as1,as2,as3,as4,⟨as5,as6,as7,as8,as9,as10,as11,as12,as13⟩⟩⟩,aa,an,ax⟩:=h;obtain⟨f,far⟩:=n;obtain rfl:=hN.f;exact a3X _ _ _ _ _ _ _ _ _ _ _ _ _ _ _ _ _ _ _ _ _ _ _ _ _ _ _ _ _ _ _ _ _ _ _ far w hN.lay s1
def Y5 (t:Tp):Bool:=ad2 t.w t.h t.l.length
def N3 (m:Ms):Bool:=decide (L3 m=0)
def F6 (s:Sc):Bool:=s.ms.all N3&&(s.ts.all Y5&&(decide (s.ms.length≤32)&&decide (s.ts.length≤16)))
theorem aa1{w:World}{h:MH}{hs:List PH}{m:Ms}(hm:I6 w h hs m):Calls Tryz.prog 142 #[.agg #[.slice h.va h.vn h.vc,.slice h.ua h.un h.uc,.slice h.pa h.pn h.pc]] w fun e w'=>e=.returned (.int .i64 (L3 m))∧Below w.heap.size w w':=
 a0P _ _ _ _ _ _ _ _ _ hs m w hm
theorem ar2{w:World}{h:TH}{t:Tp}(a:ak5 w h t):ad2 h.w h.h h.n=Y5 t:=by rw[Y5,a.we,a.he,a.tx.lay.len]
theorem a00(h:SH)(x:SX)(s:Sc)(w:World)(hR:QK w h x s):
  Calls Tryz.prog 89 #[vS h] w fun e w'=>e=.returned (.bool (F6 s))∧∃y,w'=plus w y:=by
 obtain⟨ga,gn,gc,ka,kn,kc,na,nn,nc,ma,mn,mc,ta,tn,tc,r0,r1⟩:=h;have ml:=hR.ml;have ms:=hR.ms;have tl:=hR.tl;have ts:=hR.ts;have n2:=hR.n2;have n3:=hR.n3;simp only at ml ms tl ts n2 n3;clear hR;have mlen:=ml.len;have mlen2:=ms.len;have tlen:=tl.len;have tlen2:=ts.len;unfold vS;simp only;go_enter Tryz.func89,Tryz.ntmps89;go_wp2;go_loopw [3] (fun i wr=>∃k:Nat,k≤mn∧i=.int .i64 k∧(∀j,j<k→N3 (nth ms0 s.ms j)=true)∧∃y,wr=plus (w.alloc (.cells #[.slice ga gn gc,.slice ka kn kc,.slice na nn nc,.slice ma mn mc,.slice ta tn tc,.int .i64 r0,.int .i64 r1] 34)) y) (fun i _=>mn - (intOf i).toNat)
 case atStart=>exact⟨0,Nat.zero_le _,rfl,fun j hj=>om0,sk9⟩
 case round=>
  obtain⟨k,hk,rfl,hs,y,rfl⟩:=hrel;by_cases hkl:k<mn
  ·obtain⟨g,off,rfl,hg,hcell⟩:=ml.some om0;obtain⟨c0,c1,c2⟩:=a0p mlen hcell hkl;have hone:=ms.one k om0;have ik:(k:Int)<(mn:Int):=om0;obtain⟨er,her⟩:∃er,L3 (nth ms0 s.ms k)=er:=⟨_,rfl⟩;by_cases he:er=0
   ·have hok:N3 (nth ms0 s.ms k)=true:=by simp[N3,her,he]
    subst he
    replace hok:=qw.mk hok
    go_wp2_with (go_at_call 142;refine pm0 (aa1 (hone.ex sk9)) fun nx=>?_;rw[her]);go_roundw
    case rel=>exact⟨k+1,om0,by go_num,zX hs hok.it,sk9⟩
    case measure=>simp[intOf];omega
   ·have hok:N3 (nth ms0 s.ms k)=false:=by simp[N3,her,he]
    replace hok:=qw.mk hok
    go_wp2_with (go_at_call 142;refine pm0 (aa1 (hone.ex sk9)) fun nx=>?_;rw[her]);go_ret;exact⟨by rw[show F6 s=false by rw[F6,C1 (k:=k) om0 hok.it];rfl];rfl,sk9⟩
  ·have ik:¬(k:Int)<(mn:Int):=om0;obtain rfl:mn=k:=om0;have hall:s.ms.all N3=true:=K5 (fun j hj=>hs j om0);clear hs
   replace hall:=qw.mk hall
   go_wp2;go_loopw [4] (fun i wr=>∃k:Nat,k≤tn∧i=.int .i64 k∧(∀j,j<k→Y5 (nth tp0 s.ts j)=true)∧∃y,wr=plus (w.alloc (.cells #[.slice ga gn gc,.slice ka kn kc,.slice na nn nc,.slice ma mn mc,.slice ta tn tc,.int .i64 r0,.int .i64 r1] 34)) y) (fun i _=>tn - (intOf i).toNat)
   case atStart=>exact⟨0,Nat.zero_le _,rfl,fun j hj=>om0,sk9⟩
   case round=>
    obtain⟨k2,hk2,rfl,hs2,y2,rfl⟩:=hrel;by_cases hkl2:k2<tn
    ·obtain⟨g,off,rfl,hg,hcell⟩:=tl.some om0;obtain⟨c0,c1,c2⟩:=a0T tlen hcell hkl2;have hmt:=ar2 (ts.one k2 om0);have ik2:(k2:Int)<(tn:Int):=om0;cases hok:Y5 (nth tp0 s.ts k2)
     ·rw[hok]at hmt
      replace hok:=qw.mk hok
      go_wp2_with (go_at_call 143;refine pq0 (ac9 hmt) fun nx=>?_);go_ret;exact⟨by rw[show F6 s=false by rw[F6,C1 (l:=s.ts) (k:=k2) om0 hok.it];simp];rfl,sk9⟩
     ·rw[hok]at hmt
      replace hok:=qw.mk hok
      go_wp2_with (go_at_call 143;refine pq0 (ac9 hmt) fun nx=>?_);go_roundw
      case rel=>exact⟨k2+1,om0,by go_num,zX hs2 hok.it,sk9⟩
      case measure=>simp[intOf];omega
    ·have ik2:¬(k2:Int)<(tn:Int):=om0;obtain rfl:tn=k2:=om0;have hall2:s.ts.all Y5=true:=K5 (fun j hj=>hs2 j om0);have hres:F6 s=(decide (mn≤32)&&decide (tn≤16)):=by rw[F6,hall.it,hall2,←mlen2,mlen,←tlen2,tlen];simp
     clear hs2
     replace hall2:=qw.mk hall2
     replace hres:=qw.mk hres
     by_cases h32:mn≤32
     ·have i32:(mn:Int)≤32:=om0;by_cases h16:tn≤16
      ·have i16:(tn:Int)≤16:=om0;go_wp2;go_ret;exact⟨by rw[hres.it,decide_eq_true h32,decide_eq_true h16];rfl,sk9⟩
      ·have i16:¬(tn:Int)≤16:=om0;go_wp2;go_ret;exact⟨by rw[hres.it,decide_eq_true h32,decide_eq_false h16];rfl,sk9⟩
     ·have i32:¬(mn:Int)≤32:=om0;go_wp2;go_ret;exact⟨by rw[hres.it,decide_eq_false h32];rfl,sk9⟩
end
section
theorem az7(ak am0 am1 am2 am3 am4 am5 am6 am7 am8 am9 am10 am11 ao ac0 ac1 ac2 ae as0 as1 as2 as3 as4 as5 as6 as7 as8 as9 as10 as11 as13:Int)(as12:Bool)(aa:Option Addr)(an ax:Nat)(af:List Int)(bk bm0 bm1 bm2 bm3 bm4 bm5 bm6 bm7 bm8 bm9 bm10 bm11 bo bc0 bc1 bc2 be bs0 bs1 bs2 bs3 bs4 bs5 bs6 bs7 bs8 bs9 bs10 bs11 bs13:Int)(bs12:Bool)(ba:Option Addr)(bn bx:Nat)(bf:List Int)(w:World)(hl:Lay fI w aa an af)(hl2:Lay fI w ba bn bf)(hn:an≤10000)(hn2:bn≤10000):
  Calls Tryz.prog 48 #[.agg (List.toArray (.int .u8 ak::.int .i64 am0::.int .i64 am1::.int .i64 am2::.int .i64 am3::.int .i64 am4::.int .i64 am5::.int .i64 am6::.int .i64 am7::.int .i64 am8::.int .i64 am9::.int .i64 am10::.int .i64 am11::.int .u16 ao::.int .i64 ac0::.int .i64 ac1::.int .i64 ac2::.slice aa an ax::.int .i64 ae::.int .u8 as0::.int .u8 as1::.int .u8 as2::.int .u8 as3::.int .u8 as4::.int .u8 as5::.int .u8 as6::.int .u8 as7::.int .u8 as8::.int .i64 as9::.int .u8 as10::.int .i64 as11::.bool as12::.int .i64 as13::[])),.agg (List.toArray (.int .u8 bk::.int .i64 bm0::.int .i64 bm1::.int .i64 bm2::.int .i64 bm3::.int .i64 bm4::.int .i64 bm5::.int .i64 bm6::.int .i64 bm7::.int .i64 bm8::.int .i64 bm9::.int .i64 bm10::.int .i64 bm11::.int .u16 bo::.int .i64 bc0::.int .i64 bc1::.int .i64 bc2::.slice ba bn bx::.int .i64 be::.int .u8 bs0::.int .u8 bs1::.int .u8 bs2::.int .u8 bs3::.int .u8 bs4::.int .u8 bs5::.int .u8 bs6::.int .u8 bs7::.int .u8 bs8::.int .i64 bs9::.int .u8 bs10::.int .i64 bs11::.bool bs12::.int .i64 bs13::[]))] w fun e w'=>e=.returned (.bool (z7 ⟨⟨ak,⟨⟨⟨am0,am1,am2⟩,⟨am3,am4,am5⟩,⟨am6,am7,am8⟩⟩,⟨am9,am10,am11⟩⟩,ao,⟨ac0,ac1,ac2⟩,ae,⟨as0,as1,as2,as3,as4,⟨as5,as6,as7,as8,as9,as10,as11,as12,as13⟩⟩⟩,af⟩ ⟨⟨bk,⟨⟨⟨bm0,bm1,bm2⟩,⟨bm3,bm4,bm5⟩,⟨bm6,bm7,bm8⟩⟩,⟨bm9,bm10,bm11⟩⟩,bo,⟨bc0,bc1,bc2⟩,be,⟨bs0,bs1,bs2,bs3,bs4,⟨bs5,bs6,bs7,bs8,bs9,bs10,bs11,bs12,bs13⟩⟩⟩,bf⟩))∧∃y,w'=plus w y:=by
 by_cases hk:ak=bk;rotate_left
 ·rw[show z7 ⟨⟨ak,⟨⟨⟨am0,am1,am2⟩,⟨am3,am4,am5⟩,⟨am6,am7,am8⟩⟩,⟨am9,am10,am11⟩⟩,ao,⟨ac0,ac1,ac2⟩,ae,⟨as0,as1,as2,as3,as4,⟨as5,as6,as7,as8,as9,as10,as11,as12,as13⟩⟩⟩,af⟩ ⟨⟨bk,⟨⟨⟨bm0,bm1,bm2⟩,⟨bm3,bm4,bm5⟩,⟨bm6,bm7,bm8⟩⟩,⟨bm9,bm10,bm11⟩⟩,bo,⟨bc0,bc1,bc2⟩,be,⟨bs0,bs1,bs2,bs3,bs4,⟨bs5,bs6,bs7,bs8,bs9,bs10,bs11,bs12,bs13⟩⟩⟩,bf⟩=false by simp[z7,hk]];have dk:(ak==bk)=false:=by rw[beq_eq_false_iff_ne];exact hk
  go_enter Tryz.func48,Tryz.ntmps48;go_wp2_with (go_at_call 93;refine pm0 (G5 _ _ _ _ _ _ af bf _ (hl.ex sk9) (hl2.ex sk9) hn hn2) fun nx=>?_);exact bodyPost_ret (v:=.bool false) (by simp[results,Tryz.results48,go_sem]) rfl ⟨rfl,sk9⟩
 subst hk;cases hm:ap7 ⟨⟨⟨am0,am1,am2⟩,⟨am3,am4,am5⟩,⟨am6,am7,am8⟩⟩,⟨am9,am10,am11⟩⟩ ⟨⟨⟨bm0,bm1,bm2⟩,⟨bm3,bm4,bm5⟩,⟨bm6,bm7,bm8⟩⟩,⟨bm9,bm10,bm11⟩⟩
 ·rw[show z7 ⟨⟨ak,⟨⟨⟨am0,am1,am2⟩,⟨am3,am4,am5⟩,⟨am6,am7,am8⟩⟩,⟨am9,am10,am11⟩⟩,ao,⟨ac0,ac1,ac2⟩,ae,⟨as0,as1,as2,as3,as4,⟨as5,as6,as7,as8,as9,as10,as11,as12,as13⟩⟩⟩,af⟩ ⟨⟨ak,⟨⟨⟨bm0,bm1,bm2⟩,⟨bm3,bm4,bm5⟩,⟨bm6,bm7,bm8⟩⟩,⟨bm9,bm10,bm11⟩⟩,bo,⟨bc0,bc1,bc2⟩,be,⟨bs0,bs1,bs2,bs3,bs4,⟨bs5,bs6,bs7,bs8,bs9,bs10,bs11,bs12,bs13⟩⟩⟩,bf⟩=false by simp[z7,hm]];have qM:=Y0 hm;go_enter Tryz.func48,Tryz.ntmps48;go_wp2_with (go_at_call 93;refine pm0 (G5 _ _ _ _ _ _ af bf _ (hl.ex sk9) (hl2.ex sk9) hn hn2) fun nx=>?_);exact bodyPost_ret (v:=.bool false) (by simp[results,Tryz.results48,go_sem]) rfl ⟨rfl,sk9⟩
 have qM:=Y0 hm;by_cases ho:ao=bo;rotate_left
 ·rw[show z7 ⟨⟨ak,⟨⟨⟨am0,am1,am2⟩,⟨am3,am4,am5⟩,⟨am6,am7,am8⟩⟩,⟨am9,am10,am11⟩⟩,ao,⟨ac0,ac1,ac2⟩,ae,⟨as0,as1,as2,as3,as4,⟨as5,as6,as7,as8,as9,as10,as11,as12,as13⟩⟩⟩,af⟩ ⟨⟨ak,⟨⟨⟨bm0,bm1,bm2⟩,⟨bm3,bm4,bm5⟩,⟨bm6,bm7,bm8⟩⟩,⟨bm9,bm10,bm11⟩⟩,bo,⟨bc0,bc1,bc2⟩,be,⟨bs0,bs1,bs2,bs3,bs4,⟨bs5,bs6,bs7,bs8,bs9,bs10,bs11,bs12,bs13⟩⟩⟩,bf⟩=false by simp[z7,ho]];have dk:(ao==bo)=false:=by rw[beq_eq_false_iff_ne];exact ho
  go_enter Tryz.func48,Tryz.ntmps48;go_wp2_with (go_at_call 93;refine pm0 (G5 _ _ _ _ _ _ af bf _ (hl.ex sk9) (hl2.ex sk9) hn hn2) fun nx=>?_);exact bodyPost_ret (v:=.bool false) (by simp[results,Tryz.results48,go_sem]) rfl ⟨rfl,sk9⟩
 subst ho;cases hc:eqv ⟨ac0,ac1,ac2⟩ ⟨bc0,bc1,bc2⟩
 ·rw[show z7 ⟨⟨ak,⟨⟨⟨am0,am1,am2⟩,⟨am3,am4,am5⟩,⟨am6,am7,am8⟩⟩,⟨am9,am10,am11⟩⟩,ao,⟨ac0,ac1,ac2⟩,ae,⟨as0,as1,as2,as3,as4,⟨as5,as6,as7,as8,as9,as10,as11,as12,as13⟩⟩⟩,af⟩ ⟨⟨ak,⟨⟨⟨bm0,bm1,bm2⟩,⟨bm3,bm4,bm5⟩,⟨bm6,bm7,bm8⟩⟩,⟨bm9,bm10,bm11⟩⟩,ao,⟨bc0,bc1,bc2⟩,be,⟨bs0,bs1,bs2,bs3,bs4,⟨bs5,bs6,bs7,bs8,bs9,bs10,bs11,bs12,bs13⟩⟩⟩,bf⟩=false by simp[z7,hc]];have qV:=X7 hc;go_enter Tryz.func48,Tryz.ntmps48;go_wp2_with (go_at_call 93;refine pm0 (G5 _ _ _ _ _ _ af bf _ (hl.ex sk9) (hl2.ex sk9) hn hn2) fun nx=>?_);exact bodyPost_ret (v:=.bool false) (by simp[results,Tryz.results48,go_sem]) rfl ⟨rfl,sk9⟩
 have qV:=X7 hc;cases hf:W5 af bf
 ·rw[show z7 ⟨⟨ak,⟨⟨⟨am0,am1,am2⟩,⟨am3,am4,am5⟩,⟨am6,am7,am8⟩⟩,⟨am9,am10,am11⟩⟩,ao,⟨ac0,ac1,ac2⟩,ae,⟨as0,as1,as2,as3,as4,⟨as5,as6,as7,as8,as9,as10,as11,as12,as13⟩⟩⟩,af⟩ ⟨⟨ak,⟨⟨⟨bm0,bm1,bm2⟩,⟨bm3,bm4,bm5⟩,⟨bm6,bm7,bm8⟩⟩,⟨bm9,bm10,bm11⟩⟩,ao,⟨bc0,bc1,bc2⟩,be,⟨bs0,bs1,bs2,bs3,bs4,⟨bs5,bs6,bs7,bs8,bs9,bs10,bs11,bs12,bs13⟩⟩⟩,bf⟩=false by simp[z7,hf]];go_enter Tryz.func48,Tryz.ntmps48;go_wp2_with (go_at_call 93;refine pm0 (G5 _ _ _ _ _ _ af bf _ (hl.ex sk9) (hl2.ex sk9) hn hn2) fun nx=>?_);exact bodyPost_ret (v:=.bool false) (by simp[results,Tryz.results48,go_sem]) rfl ⟨rfl,sk9⟩
 by_cases he:ae=be;rotate_left
 ·rw[show z7 ⟨⟨ak,⟨⟨⟨am0,am1,am2⟩,⟨am3,am4,am5⟩,⟨am6,am7,am8⟩⟩,⟨am9,am10,am11⟩⟩,ao,⟨ac0,ac1,ac2⟩,ae,⟨as0,as1,as2,as3,as4,⟨as5,as6,as7,as8,as9,as10,as11,as12,as13⟩⟩⟩,af⟩ ⟨⟨ak,⟨⟨⟨bm0,bm1,bm2⟩,⟨bm3,bm4,bm5⟩,⟨bm6,bm7,bm8⟩⟩,⟨bm9,bm10,bm11⟩⟩,ao,⟨bc0,bc1,bc2⟩,be,⟨bs0,bs1,bs2,bs3,bs4,⟨bs5,bs6,bs7,bs8,bs9,bs10,bs11,bs12,bs13⟩⟩⟩,bf⟩=false by simp[z7,he]];have dk:(ae==be)=false:=by rw[beq_eq_false_iff_ne];exact he
  go_enter Tryz.func48,Tryz.ntmps48;go_wp2_with (go_at_call 93;refine pm0 (G5 _ _ _ _ _ _ af bf _ (hl.ex sk9) (hl2.ex sk9) hn hn2) fun nx=>?_);exact bodyPost_ret (v:=.bool false) (by simp[results,Tryz.results48,go_sem]) rfl ⟨rfl,sk9⟩
 subst he;cases hs:a3V ⟨as0,as1,as2,as3,as4,⟨as5,as6,as7,as8,as9,as10,as11,as12,as13⟩⟩ ⟨bs0,bs1,bs2,bs3,bs4,⟨bs5,bs6,bs7,bs8,bs9,bs10,bs11,bs12,bs13⟩⟩
 ·rw[show z7 ⟨⟨ak,⟨⟨⟨am0,am1,am2⟩,⟨am3,am4,am5⟩,⟨am6,am7,am8⟩⟩,⟨am9,am10,am11⟩⟩,ao,⟨ac0,ac1,ac2⟩,ae,⟨as0,as1,as2,as3,as4,⟨as5,as6,as7,as8,as9,as10,as11,as12,as13⟩⟩⟩,af⟩ ⟨⟨ak,⟨⟨⟨bm0,bm1,bm2⟩,⟨bm3,bm4,bm5⟩,⟨bm6,bm7,bm8⟩⟩,⟨bm9,bm10,bm11⟩⟩,ao,⟨bc0,bc1,bc2⟩,ae,⟨bs0,bs1,bs2,bs3,bs4,⟨bs5,bs6,bs7,bs8,bs9,bs10,bs11,bs12,bs13⟩⟩⟩,bf⟩=false by simp[z7,hs]];have qS:=aw4 hs;go_enter Tryz.func48,Tryz.ntmps48;go_wp2_with (go_at_call 93;refine pm0 (G5 _ _ _ _ _ _ af bf _ (hl.ex sk9) (hl2.ex sk9) hn hn2) fun nx=>?_);exact bodyPost_ret (v:=.bool false) (by simp[results,Tryz.results48,go_sem]) rfl ⟨rfl,sk9⟩
 have qS:=aw4 hs;rw[show z7 ⟨⟨ak,⟨⟨⟨am0,am1,am2⟩,⟨am3,am4,am5⟩,⟨am6,am7,am8⟩⟩,⟨am9,am10,am11⟩⟩,ao,⟨ac0,ac1,ac2⟩,ae,⟨as0,as1,as2,as3,as4,⟨as5,as6,as7,as8,as9,as10,as11,as12,as13⟩⟩⟩,af⟩ ⟨⟨ak,⟨⟨⟨bm0,bm1,bm2⟩,⟨bm3,bm4,bm5⟩,⟨bm6,bm7,bm8⟩⟩,⟨bm9,bm10,bm11⟩⟩,ao,⟨bc0,bc1,bc2⟩,ae,⟨bs0,bs1,bs2,bs3,bs4,⟨bs5,bs6,bs7,bs8,bs9,bs10,bs11,bs12,bs13⟩⟩⟩,bf⟩=true by simp[z7,hm,hc,hf,hs]];go_enter Tryz.func48,Tryz.ntmps48;go_wp2_with (go_at_call 93;refine pm0 (G5 _ _ _ _ _ _ af bf _ (hl.ex sk9) (hl2.ex sk9) hn hn2) fun nx=>?_);exact bodyPost_ret (v:=.bool true) (by simp[results,Tryz.results48,go_sem]) rfl ⟨rfl,sk9⟩
theorem T1{h h2:NH}{n n2:Nd}{w:World}(hN:G0 w h n)(hN2:G0 w h2 n2)(s1:h.n≤10000)(s2:h2.n≤10000){b:Bool}(hb:z7 n n2=b):
  Calls Tryz.prog 48 #[vN h,vN h2] w fun e w'=>e=.returned (.bool b)∧∃y,w'=plus w y:=by
 subst hb;obtain⟨⟨ak,⟨⟨⟨am0,am1,am2⟩,⟨am3,am4,am5⟩,⟨am6,am7,am8⟩⟩,⟨am9,am10,am11⟩⟩,ao,⟨ac0,ac1,ac2⟩,ae,⟨as0,as1,as2,as3,as4,⟨as5,as6,as7,as8,as9,as10,as11,as12,as13⟩⟩⟩,aa,an,ax⟩:=h;obtain⟨⟨bk,⟨⟨⟨bm0,bm1,bm2⟩,⟨bm3,bm4,bm5⟩,⟨bm6,bm7,bm8⟩⟩,⟨bm9,bm10,bm11⟩⟩,bo,⟨bc0,bc1,bc2⟩,be,⟨bs0,bs1,bs2,bs3,bs4,⟨bs5,bs6,bs7,bs8,bs9,bs10,bs11,bs12,bs13⟩⟩⟩,ba,bn,bx⟩:=h2;obtain⟨f,far⟩:=n;obtain⟨f2,far2⟩:=n2;obtain rfl:=hN.f;obtain rfl:=hN2.f;exact az7 _ _ _ _ _ _ _ _ _ _ _ _ _ _ _ _ _ _ _ _ _ _ _ _ _ _ _ _ _ _ _ _ _ _ _ far _ _ _ _ _ _ _ _ _ _ _ _ _ _ _ _ _ _ _ _ _ _ _ _ _ _ _ _ _ _ _ _ _ _ _ far2 w hN.lay hN2.lay s1 s2
end
section
open Go.RowKit
section
variable {P:Program}
theorem ah4(w:World)(g off:Nat)(ty:TypeId)(cs:List Value)(d:TypeDesc)(hc:∀j v,cs[j]?=some v→w.cell? ⟨g,off+j,none⟩=some v)
  (hu:P.underlying ty=some d) (hd:(match d with|.struct _|.array _ _=>true|_=>false)=true) (hi:(P.info? ty).map (·.size)=some cs.length):
  (loadVar ty ⟨g,off,none⟩).run P w=.ok (.agg cs.toArray) w:=by
 have hl:(loadCells ⟨g,off,none⟩ cs.length).run P w=.ok cs.toArray w:=
  run_loadCells_list (P:=P) w ⟨g,off,none⟩ cs (fun j v hv=>by rw[ac5];exact hc j v hv)
 cases hq:P.info? ty with
 |none=>simp[hq]at hi
 |some i=>
  have hs:i.size=cs.length:=by simpa [hq]using hi
  have hagg:(isAgg ty).run P w=.ok true w:=by
   unfold isAgg;rw[Sem.run_bind,run_underlying hu w];cases d<;>simp_all
  simp[loadVar,Sem.run_bind,hagg,sizeOf,typeInfo,hq,hs,hl]
variable {ops:Array Oper} {rest:List Oper} {o:Oper} {a:Act} {w:World}
theorem zP(ty:TypeId)(x:Operand)(ho:o.op=.load ty x)(g off:Nat)(hx:a.eval x=.pointer (some ⟨g,off,none⟩))(cs:List Value)(d:TypeDesc)(hc:∀j v,cs[j]?=some v→w.cell? ⟨g,off+j,none⟩=some v)
  (hu:P.underlying ty=some d) (hd:(match d with|.struct _|.array _ _=>true|_=>false)=true) (hi:(P.info? ty).map (·.size)=some cs.length):
  (execOp a.eval o).run P w=.ok (.value (.agg cs.toArray)) w:=by
 unfold execOp;simp only[ho,hx,Instr.loadAt,Instr.sureAddr,Sem.run_bind,Sem.run_pure,Result.andThen_ok,ah4 w g off ty cs d hc hu hd hi]
theorem qY{Q:Exit→Act→World→Prop}(hgd:o.guard=none)(ty:TypeId)(x:Operand)(ho:o.op=.load ty x)(g off:Nat)(hx:a.eval x=.pointer (some ⟨g,off,none⟩))(cs:List Value)(d:TypeDesc)(hc:∀j v,cs[j]?=some v→w.cell? ⟨g,off+j,none⟩=some v)
  (hu:P.underlying ty=some d) (hd:(match d with|.struct _|.array _ _=>true|_=>false)=true) (hi:(P.info? ty).map (·.size)=some cs.length)
  (h:wpList P ops Q rest (a.put o.dst (.agg cs.toArray)) w):wpList P ops Q (o::rest) a w:=
 wpList_plain hgd fun _ hK=>by
  unfold Oper.wp;rw[zP ty x ho g off hx cs d hc hu hd hi];exact hK _ _ h
theorem zI{C:World→Prop}{Q:Act→Prop}(hw:Region.wanted o (yielded ops a.tmps)=true)(ty:TypeId)(x:Operand)(ho:o.op=.load ty x)(g off:Nat)(hx:a.eval x=.pointer (some ⟨g,off,none⟩))(cs:List Value)(d:TypeDesc)(hc:∀w,C w→∀j v,cs[j]?=some v→w.cell? ⟨g,off+j,none⟩=some v)
  (hu:P.underlying ty=some d) (hd:(match d with|.struct _|.array _ _=>true|_=>false)=true) (hi:(P.info? ty).map (·.size)=some cs.length)
  (h:wpQuiet P ops C Q rest (a.put o.dst (.agg cs.toArray))):wpQuiet P ops C Q (o::rest) a:=
 BigFrame.wpQuiet_want hw fun _ hK=>⟨_,fun w hC=>by
  unfold Oper.quietAt;rw[zP ty x ho g off hx cs d (hc w hC) hu hd hi];exact⟨rfl,rfl⟩,hK _ h⟩
end
end
section
open Go.RowKit
section
variable {P:Program}
def H6 (cur:Array Value) (i:Nat) (vs:List Value):Array Value:=(cur.toList.take i++(vs++cur.toList.drop (i+vs.length))).toArray
theorem a2o{cur:Array Value}{i:Nat}{vs:List Value}(h:i+vs.length≤cur.size):(H6 cur i vs).size=cur.size:=by
 unfold H6;simp only[List.size_toArray,List.length_append,List.length_take,List.length_drop,Array.length_toList];omega
theorem QW(g off:Nat)(t:TypeId):∀(vs:List Value) (i:Nat) (cur:Array Value) (w:World),w.heap[g]?=some (.cells cur t (0,0))→off+i+vs.length≤cur.size→(∀v∈vs,v.oneCell'=true)→
  (storeCells ⟨g,off,none⟩ vs i).run P w=.ok () (w.setRow g (H6 cur (off+i) vs))
 |[],i,cur,w,hg,hl,_=>by
  have:H6 cur (off+i) []=cur:=by
   unfold H6;simp
  have hlt:g<w.heap.size:=(Array.getElem?_eq_some_iff.1 hg).1;have hv:w.heap[g]=.cells cur t (0,0):=(Array.getElem?_eq_some_iff.1 hg).2;simp only[storeCells,this];show Result.ok () w=_
  congr 1
  unfold World.setRow;cases w with
  |mk heap tape drawn os output=>
   congr 1
   apply Array.ext
   ·simp
   ·intro k h1 h2;simp only[Array.getElem_modify];split
    ·rename_i hk;subst hk;simp at hv;simp[hv]
    ·rfl
 |v::rest,i,cur,w,hg,hl,h1=>by
  have hi:off+i<cur.size:=by simp at hl;omega
  have hadd:(⟨g,off,none⟩:Addr).add i=⟨g,off+i,none⟩:=by unfold Addr.add;split<;>simp_all
  have hcell:w.cell? ⟨g,off+i,none⟩=some cur[off+i]:=by simp[World.cell?,hg,hi]
  have hfro:w.frozen? ⟨g,off+i,none⟩=false:=by simp[World.frozen?,hg]
  have hst:(store ((⟨g,off,none⟩:Addr).add i) v).run P w=.ok () (w.setRow g (cur.setIfInBounds (off+i) v)):=by
   rw[hadd,run_store P w _ v _ (h1 v (by simp)),hcell];simp[hfro,setCell_eq_setRow w g (off+i) cur t (0,0) v hg]
  have ih:=QW g off t rest (i+1) (cur.setIfInBounds (off+i) v) (w.setRow g (cur.setIfInBounds (off+i) v)) (setRow_heap w g cur _ t _ hg) (by simp at hl ⊢;omega) (fun x hx=>h1 x (by simp[hx]));simp only[storeCells,Sem.run_bind,hst,Result.andThen_ok,ih,setRow_setRow]
  congr 2
  unfold H6
  congr 1
  apply List.ext_getElem?;intro k;simp only[Array.toList_setIfInBounds,List.getElem?_append,List.length_take,List.length_set,Array.length_toList,List.getElem?_take,List.getElem?_drop,List.getElem?_set,List.length_cons,List.getElem?_cons];rw[show min (off+(i+1)) cur.size=off+i+1 by omega,show min (off+i) cur.size=off+i by omega];by_cases hk:k<off+i
  ·simp[hk,show k<off+(i+1)by omega,show k<off+i+1 by omega,show¬off+i=k by omega]
  ·by_cases hk2:k=off+i
   ·subst hk2;simp[hi,show off+i<off+(i+1)by omega]
   ·have e1:¬k<off+i+1:=om0;simp only[hk,e1,if_false];by_cases hk3:k - (off+i+1)<rest.length
    ·simp[hk3,show k - (off+i) - 1=k - (off+i+1)by omega,show k - (off+i)<rest.length+1 by omega,show¬k - (off+i)=0 by omega]
    ·simp[hk3,show¬k - (off+i)<rest.length+1 by omega,show¬off+i=off+(i+1)+rest.length+(k - (off+i+1) - rest.length)by omega]
     congr 1
     omega
theorem S9(w:World)(g off:Nat)(t ty:TypeId)(cur:Array Value)(cs:List Value)(hg:w.heap[g]?=some (.cells cur t (0,0)))(hi:(P.info? ty).map (·.size)=some cs.length)
  (ho:off+cs.length≤cur.size) (h1:∀v∈cs,v.oneCell'=true):
  (storeVar ty ⟨g,off,none⟩ (.agg cs.toArray)).run P w=.ok () (w.setRow g (H6 cur off cs)):=by
 have:=QW (P:=P) g off t cs 0 cur w hg om0 h1;rw[Nat.add_zero]at this;cases hq:P.info? ty with
 |none=>simp[hq]at hi
 |some i=>
  have hs:cs.length=i.size:=by simp[hq]at hi;omega
  simp[storeVar,sizeOf,typeInfo,hq,Value.cells,hs,this]
variable {ops:Array Oper} {rest:List Oper} {o:Oper} {a:Act} {w:World}
theorem zu{Q:Exit→Act→World→Prop}(hgd:o.guard=none)(ty:TypeId)(x y:Operand)(ho:o.op=.store ty x y)(g off:Nat)(cs:List Value)(hx:a.eval x=.pointer (some ⟨g,off,none⟩))(hy:a.eval y=.agg cs.toArray)
  (t:TypeId) (cur:Array Value) (hg:w.heap[g]?=some (.cells cur t (0,0))) (hi:(P.info? ty).map (·.size)=some cs.length) (hn:off+cs.length≤cur.size) (h1:∀v∈cs,v.oneCell'=true)
  (h:wpList P ops Q rest (a.put o.dst undef) (w.setRow g (H6 cur off cs))):wpList P ops Q (o::rest) a w:=
 wpList_plain hgd fun _ hK=>by
  unfold Oper.wp execOp;simp only[ho,hx,hy,Instr.storeAt,Instr.sureAddr,Sem.run_bind,Sem.run_pure,Result.andThen_ok,S9 w g off t ty cur cs hg hi hn h1];exact hK _ _ h
theorem qL{C:World→Prop}{Q:Act→Prop}(ty:TypeId)(x:Operand)(ho:o.op=.load ty x)(g off:Nat)(hx:a.eval x=.pointer (some ⟨g,off,none⟩))(cs:List Value)(d:TypeDesc)(hc:∀w,C w→∀j v,cs[j]?=some v→w.cell? ⟨g,off+j,none⟩=some v)
  (hu:P.underlying ty=some d) (hd:(match d with|.struct _|.array _ _=>true|_=>false)=true) (hi:(P.info? ty).map (·.size)=some cs.length) (hw:Region.wanted o (yielded ops a.tmps)=true)
  (h:wpQuiet P ops C Q rest (a.put o.dst (.agg cs.toArray))):wpQuiet P ops C Q (o::rest) a:=
 zI hw ty x ho g off hx cs d hc hu hd hi h
theorem j6{Q:Exit→Act→World→Prop}(hgd:o.guard=none)(ty:TypeId)(x y:Operand)(ho:o.op=.store ty x y)(g:Nat)(cs:List Value)(hx:a.eval x=.pointer (some ⟨g,0,none⟩))(hy:a.eval y=.agg cs.toArray)
  (t:TypeId) (cur:Array Value) (hg:w.heap[g]?=some (.cells cur t (0,0))) (hi:(P.info? ty).map (·.size)=some cs.length) (hn:cur.size=cs.length) (h1:∀v∈cs,v.oneCell'=true)
  (h:wpList P ops Q rest (a.put o.dst undef) (w.setRow g cs.toArray)):wpList P ops Q (o::rest) a w:=
 wpList_store_row hgd ty x y ho g cs.toArray hx hy t cur hg (by simpa using hi) (by simpa using hn) (Array.all_eq_true_iff_forall_mem.2 fun v hv=>h1 v (by simpa using hv)) h
end
theorem p9{w:World}{g:Nat}{c cs:Array Value}{t:TypeId}(h:w.heap[g]?=some (.cells c t)):(w.setRow g cs).heap[g]?=some (.cells cs t):=setRow_heap w g c cs t _ h
theorem Qe{w:World}{g k:Nat}{cs:Array Value}(h:g≠k):(w.setRow g cs).heap[k]?=w.heap[k]?:=setRow_other w g k cs (Ne.symm h)
theorem ql{w T:World}{g:Nat}{cs:Array Value}(hw:∃y,w=plus T y)(hg:T.heap.size≤g):∃y,w.setRow g cs=plus T y:=by
 obtain⟨y,rfl⟩:=hw;apply C3;have hb:=A3 T y;refine⟨hb.os,hb.tape,hb.output,by rw[setRow_size];exact hb.size,fun n hn=>?_⟩;rw[Qe om0];exact hb.block n hn
section
variable {α:Type} {f:α→List Value} {w T:World} {ao:Option Addr} {n cap c g k:Nat} {l:List α} {e e':TypeId} {cur cs:Array Value}
theorem Own.row_other(h:Own e c f T w ao n cap l)(hb:w.heap[g]?=some (.cells cur e'))(he:e'≠e):Own e c f T (w.setRow g cs) ao n cap l:=by
 refine⟨h.1,h.2.1,h.2.2.imp id ?_⟩;rintro⟨k,cp,cu,h1,h2,h3,h4⟩;refine⟨k,cp,cu,h1,h2,?_,h4⟩;have hne:g≠k:=by
  intro e2;subst e2;rw[hb]at h3;cases h3;exact he rfl
 rw[Qe hne];exact h3
theorem Own.row_out(h:Own e c f T w ao n cap l)(hg:g<T.heap.size):Own e c f T (w.setRow g cs) ao n cap l:=by
 refine⟨h.1,h.2.1,h.2.2.imp id ?_⟩;rintro⟨k,cp,cu,h1,h2,h3,h4⟩;exact⟨k,cp,cu,h1,h2,by rw[Qe om0];exact h3,h4⟩
theorem a5Q(hc:∀x,(f x).length=c)(l:List α):(l.flatMap f).length=l.length*c:=by
 induction l with
 |nil=>simp
 |cons x l ih=>rw[List.flatMap_cons,List.length_append,ih,hc,List.length_cons,Nat.succ_mul,Nat.add_comm]
theorem a66(hc:∀x,(f x).length=c)(l:List α)(x:α):∀k,k<l.length→(l.set k x).flatMap f=(l.flatMap f).take (k*c)++(f x++(l.flatMap f).drop (k*c+c)):=by
 induction l with
 |nil=>intro k hk;simp at hk
 |cons y l ih=>
  intro k hk;cases k with
  |zero=>simp[hc y]
  |succ k=>
   have hk':k<l.length:=by simpa using hk
   rw[List.set_cons_succ,List.flatMap_cons,ih k hk',List.flatMap_cons,Nat.succ_mul,List.take_append,hc,List.drop_append,hc,List.take_of_length_le (l:=f y) (by rw[hc];omega),show List.drop (k*c+c+c) (f y)=[]from List.drop_eq_nil_of_le (by rw[hc];omega),List.append_assoc,List.nil_append,
    show k*c+c - c=k*c by omega,show k*c+c+c - c=k*c+c by omega]
theorem Own.set_row(h:Own e c f T w (some ⟨g,0,none⟩) n cap l)(hb:w.heap[g]?=some (.cells cur e))(hk:k<n)(hc:∀x,(f x).length=c)(x:α):
  Own e c f T (w.setRow g (H6 cur (k*c) (f x))) (some ⟨g,0,none⟩) n cap (l.set k x)∧k*c+(f x).length≤cur.size:=by
 have hlen:=h.1;have hx:=hc x;rcases h.2.2 with⟨h1,h0⟩|⟨g',cp,cu,h1,h2,h3,h4,h5,h6,h7⟩
 ·omega
 ·simp only[Value.slice.injEq,true_and,Option.some.injEq,Addr.mk.injEq,and_true]at h1;obtain⟨rfl,rfl⟩:=h1;rw[hb]at h3;cases h3;have hkc:k*c+c≤n*c:=by
   have:=Nat.mul_le_mul_right c (show k+1≤n by omega);rw[Nat.succ_mul]at this;exact this
  have hnc:n*c≤cur.size:=by rw[h6];exact Nat.mul_le_mul_right _ h4
  refine⟨⟨by rw[List.length_set];exact h.1,?_,.inr ⟨g,cap,_,rfl,h2,p9 hb,h4,h5,?_,?_⟩⟩,om0⟩
  ·rw[a5Q hc,List.length_set,hlen]
  ·rw[a2o om0];exact h6
  ·rw[a66 hc l x k om0,←h7];unfold H6;rw[List.take_append,List.take_append,List.length_take,Array.length_toList,hx];have e1:min (k*c) cur.size=k*c:=om0;rw[e1,List.take_of_length_le (l:=f x) (by rw[hx];omega),List.take_of_length_le (l:=List.take (k*c) cur.toList) (by rw[List.length_take];omega),List.take_take,show min (k*c) (n*c)=k*c by omega]
   congr 2
   rw[List.take_drop]
   congr 2
   omega
end
end
section
theorem qz{α:Type}{F:α→World→Prop}{a:α}{w:World}(p:World→Prop)(hp:p w)(h:∀w',p w'→F a w'):F a w:=h w hp
theorem qc(w:World)(o:Obj):(w.alloc o).heap[w.heap.size]?=some o:=by rw[qe,if_pos rfl]
theorem qm{w:World}{o o':Obj}{g:Nat}(h:w.heap[g]?=some o):(w.alloc o').heap[g]?=some o:=by rw[qe,if_neg (by have:=qi h;omega)];exact h
theorem j8(w:World)(o:Obj):(w.alloc o).heap.size=w.heap.size+1:=Array.size_push ..
theorem y8{w:World}{g i:Nat}{u:Value}{cs:List Value}{t:TypeId}(h:w.heap[g]?=some (.cells cs.toArray t)):(w.setCell ⟨g,i,none⟩ u).heap[g]?=some (.cells (cs.set i u).toArray t):=by
 rw[j7 h];simp
theorem qj{w:World}{g k i:Nat}{u:Value}{o:Obj}(h:w.heap[k]?=some o)(hne:g≠k):(w.setCell ⟨g,i,none⟩ u).heap[k]?=some o:=by rw[qd hne];exact h
theorem l9{w:World}{g k:Nat}{cs:Array Value}{o:Obj}(h:w.heap[k]?=some o)(hne:g≠k):(w.setRow g cs).heap[k]?=some o:=by rw[Qe hne];exact h
theorem k9{w:World}{g i:Nat}{cs:List Value}{t:TypeId}{u:Value}(h:w.heap[g]?=some (.cells cs.toArray t))(hi:cs[i]?=some u):w.cell? ⟨g,i,none⟩=some u:=i6 h (by simpa using hi)
structure zV (T w:World) (h:NH) (n:Nd):Prop where
 f:h.f=n.f
 b:NfB n.f
 far:Own 3 1 fI T w h.ao h.n h.cap n.far
theorem zV.ex{T w w':World}{h:NH}{n:Nd}(a:zV T w h n)(hw:∃y,w'=plus w y):zV T w' h n:=⟨a.f,a.b,a.far.ex hw⟩
theorem zV.base{T T' w:World}{h:NH}{n:Nd}(a:zV T w h n)(hT:T'.heap.size≤T.heap.size):zV T' w h n:=⟨a.f,a.b,a.far.base hT⟩
def a01 (h:NH) (ao:Option Addr) (n cap:Nat):NH:=⟨h.f,ao,n,cap⟩
theorem a8o(h:NH)(ao:Option Addr)(n cap:Nat):(fN h).set 17 (.slice ao n cap)=fN (a01 h ao n cap):=rfl
theorem a6s(h:NH)(v:Value)(ao:Option Addr)(n cap:Nat):((fN h).set 17 v).set 17 (.slice ao n cap)=fN (a01 h ao n cap):=rfl
theorem ah1(h:NH):(fN h)[17]?=some (.slice h.ao h.n h.cap):=rfl
theorem ZL(h:NH):(fN h)[0]?=some (.int .u8 h.f.kind):=rfl
def a6a (w:World) (n:Nd) (e:Ending) (w':World):Prop:=∃h,e=.returned (vN h)∧(∃y,w'=plus w y)∧zV w w' h n
end
section
attribute [local go_sem] eqarr_40 nearr_40 larr_40
attribute [local go_sem] eqarr_137 nearr_137 larr_137
attribute [local go_sem] isnil_47
attribute [local go_sem] isnil_57
attribute [local go_sem] isnil_58
attribute [local go_sem] isnil_59
theorem a7k(ao:Option Addr)(n cap:Nat)(l:List Int)(w:World)(hl:Lay fI w ao n l)(hn:n≤10000)(hz:ao=none→cap=0):
  Calls Tryz.prog 83 #[.slice ao n cap] w fun e w'=>a7z 3 1 fI w l e w':=by
 cases ao with
 |none=>
  obtain rfl:n=0:=by rcases hl.at0 with h|⟨g,off,h,_⟩;exact h;cases h
  obtain rfl:=hz rfl;obtain rfl:=hl.zero;go_enter Tryz.func83,Tryz.ntmps83;go_wp2;go_ret;exact⟨none,0,0,rfl,skM,zd⟩
 |some a=>
  go_enter Tryz.func83,Tryz.ntmps83;go_wp2_with (at_builtin;(refine qo (T:=w) (l:=[]) rfl _ _ rfl a9c a8K a8Y rfl skM ⟨rfl,World.ownsRow_made w _ 0 (Nat.le_refl _) dc0 rfl⟩ rfl (hl.ex skM) om0 dc0 ?_;intro ao' cap' y' hown'));go_ret;rw[Nat.zero_add,List.nil_append]at hown';exact⟨ao',_,cap',rfl,skM,hown'⟩
theorem a8J(ao:Option Addr)(n cap:Nat)(l:List V3)(w:World)(hl:Lay fV w ao n l)(hn:n≤10000)(hz:ao=none→cap=0):
  Calls Tryz.prog 84 #[.slice ao n cap] w fun e w'=>a7z 43 3 fV w l e w':=by
 cases ao with
 |none=>
  obtain rfl:n=0:=by rcases hl.at0 with h|⟨g,off,h,_⟩;exact h;cases h
  obtain rfl:=hz rfl;obtain rfl:=hl.zero;go_enter Tryz.func84,Tryz.ntmps84;go_wp2;go_ret;exact⟨none,0,0,rfl,skM,zd⟩
 |some a=>
  go_enter Tryz.func84,Tryz.ntmps84;go_wp2_with (at_builtin;(refine qo (T:=w) (l:=[]) rfl _ _ rfl a9P a1x a4o rfl skM ⟨rfl,World.ownsRow_made w _ 0 (Nat.le_refl _) dc0 rfl⟩ rfl (hl.ex skM) om0 dc0 ?_;intro ao' cap' y' hown'));go_ret;rw[Nat.zero_add,List.nil_append]at hown';exact⟨ao',_,cap',rfl,skM,hown'⟩
theorem a8O(ao:Option Addr)(n cap:Nat)(l:List (Int × Int))(w:World)(hl:Lay f2 w ao n l)(hn:n≤10000)(hz:ao=none→cap=0):
  Calls Tryz.prog 85 #[.slice ao n cap] w fun e w'=>a7z 137 2 f2 w l e w':=by
 cases ao with
 |none=>
  obtain rfl:n=0:=by rcases hl.at0 with h|⟨g,off,h,_⟩;exact h;cases h
  obtain rfl:=hz rfl;obtain rfl:=hl.zero;go_enter Tryz.func85,Tryz.ntmps85;go_wp2;go_ret;exact⟨none,0,0,rfl,skM,zd⟩
 |some a=>
  go_enter Tryz.func85,Tryz.ntmps85;go_wp2_with (at_builtin;(refine qo (T:=w) (l:=[]) rfl _ _ rfl a9x Q1 ZV rfl skM ⟨rfl,World.ownsRow_made w _ 0 (Nat.le_refl _) dc0 rfl⟩ rfl (hl.ex skM) om0 dc0 ?_;intro ao' cap' y' hown'));go_ret;rw[Nat.zero_add,List.nil_append]at hown';exact⟨ao',_,cap',rfl,skM,hown'⟩
end
section
attribute [local go_sem] eqarr_40 nearr_40 larr_40
attribute [local go_sem] eqarr_137 nearr_137 larr_137
attribute [local go_sem] isnil_47
attribute [local go_sem] isnil_57
attribute [local go_sem] isnil_58
attribute [local go_sem] isnil_59
def ag7 (p q:Pr):Bool:=decide (p.kind=q.kind)&&W5 p.ix q.ix
def au2 (l l2:List Pr):Bool:=V4 ag7 dPr l l2
def E3 (m o:Ms):Bool:=a2e m.vs o.vs&&ZQ m.uv o.uv&&au2 m.ps o.ps
def a7e (hs:List PH):Prop:=∀k,k<hs.length→(nth dPH hs k).n≤1000
end
section
attribute [local go_sem] eqarr_40 nearr_40 larr_40
attribute [local go_sem] eqarr_137 nearr_137 larr_137
attribute [local go_sem] isnil_47
attribute [local go_sem] isnil_57
attribute [local go_sem] isnil_58
attribute [local go_sem] isnil_59
theorem a84(ao:Option Addr)(n cap:Nat)(l:List PH)(w:World)(hl:Lay fP w ao n l)(hn:n≤10000)(hz:ao=none→cap=0):
  Calls Tryz.prog 86 #[.slice ao n cap] w fun e w'=>a7z 131 2 fP w l e w':=by
 cases ao with
 |none=>
  obtain rfl:n=0:=by rcases hl.at0 with h|⟨g,off,h,_⟩;exact h;cases h
  obtain rfl:=hz rfl;obtain rfl:=hl.zero;go_enter Tryz.func86,Tryz.ntmps86;go_wp2;go_ret;exact⟨none,0,0,rfl,skM,zd⟩
 |some a=>
  go_enter Tryz.func86,Tryz.ntmps86;go_wp2_with (at_builtin;(refine qo (T:=w) (l:=[]) rfl _ _ rfl a9K a8u a9I rfl skM ⟨rfl,World.ownsRow_made w _ 0 (Nat.le_refl _) dc0 rfl⟩ rfl (hl.ex skM) om0 dc0 ?_;intro ao' cap' y' hown'));go_ret;rw[Nat.zero_add,List.nil_append]at hown';exact⟨ao',_,cap',rfl,skM,hown'⟩
def K3 (vn un pn:Nat) (hs:List PH):Bool:=decide (1000<vn)||decide (1000<un)||decide (100<pn)||hs.any (fun h=>decide (1000<h.n))
theorem a5n{vn un pn:Nat}{hs:List PH}(h:K3 vn un pn hs=false):vn≤1000∧un≤1000∧pn≤100∧a7e hs:=by
 simp only[K3,Bool.or_eq_false_iff,decide_eq_false_iff_not]at h;obtain⟨⟨⟨h1,h2⟩,h3⟩,h4⟩:=h;refine⟨om0,om0,om0,fun k hk=>?_⟩;have h5:=List.any_eq_false.1 h4 _ (F3 (d:=dPH) hk);simp only[decide_eq_true_eq]at h5;omega
theorem a0L(va ua pa:Option Addr)(vn vc un uc pn pc:Nat)(hs:List PH)(m:Ms)(w:World)(hm:I6 w ⟨va,vn,vc,ua,un,uc,pa,pn,pc⟩ hs m):
  Calls Tryz.prog 34 #[.agg #[.slice va vn vc,.slice ua un uc,.slice pa pn pc]] w fun e w'=>e=.returned (.bool (K3 vn un pn hs))∧Below w.heap.size w w':=by
 have hpl:Lay fP w pa pn hs:=hm.pl;have hpp:M3 w hs m.ps:=hm.pp;have l1:=hpl.len;have hz:=hm.ple;have hz2:=hm.vle;have hz3:=hm.ule;simp only at hz hz2 hz3;by_cases h1:1000<vn
 ·rw[show K3 vn un pn hs=true by simp[K3,h1]];have i1:(1000:Int)<(vn:Int):=om0;go_enter Tryz.func34,Tryz.ntmps34;go_wp2;go_ret;exact⟨rfl,skB⟩
 have i1:¬(1000:Int)<(vn:Int):=om0;by_cases h2:1000<un
 ·rw[show K3 vn un pn hs=true by simp[K3,h2]];have i2:(1000:Int)<(un:Int):=om0;go_enter Tryz.func34,Tryz.ntmps34;go_wp2;go_ret;exact⟨rfl,skB⟩
 have i2:¬(1000:Int)<(un:Int):=om0;by_cases h3:100<pn
 ·rw[show K3 vn un pn hs=true by simp[K3,h3]];have i3:(100:Int)<(pn:Int):=om0;go_enter Tryz.func34,Tryz.ntmps34;go_wp2;go_ret;exact⟨rfl,skB⟩
 have i3:¬(100:Int)<(pn:Int):=om0;have hgr:K3 vn un pn hs=hs.any (fun h=>decide (1000<h.n)):=by simp[K3,h1,h2,h3]
 rw[hgr];obtain⟨ps,hps⟩:∃ps,m.ps=ps:=⟨_,rfl⟩;rw[hps]at hpp;go_enter Tryz.func34,Tryz.ntmps34;go_wp2;go_loopw [3] (fun i wr=>∃k:Nat,k≤pn∧i=.int .i64 k∧(∀j,j<k→decide (1000<(nth dPH hs j).n)=false)∧∃x,wr=plus (w.alloc (.cells #[.slice va vn vc,.slice ua un uc,.slice pa pn pc] 61)) x) (fun i _=>pn - (intOf i).toNat)
 case atStart=>exact⟨0,Nat.zero_le _,rfl,fun j hj=>om0,skM⟩
 case round=>
  obtain⟨k,hk,rfl,hs1,x,rfl⟩:=hrel;by_cases hkl:k<pn
  ·obtain⟨g,off,rfl,hgl,hcell⟩:=hpl.some om0;obtain⟨d0,d1⟩:=a1o hpl.len hcell (k:=k) hkl;have ik:(k:Int)<(pn:Int):=om0;by_cases h4:1000<(nth dPH hs k).n
   ·have i4:(1000:Int)<((nth dPH hs k).n:Int):=om0;go_wp2;go_ret;exact⟨by rw[show hs.any (fun h=>decide (1000<h.n))=true from List.any_eq_true.2 ⟨_,F3 (d:=dPH) (k:=k) om0,decide_eq_true h4⟩];rfl,skB⟩
   ·have i4:¬(1000:Int)<((nth dPH hs k).n:Int):=om0;go_wp2;go_roundw
    case rel=>exact⟨k+1,om0,by go_num,C4 hs1 (decide_eq_false h4),skM⟩
    case measure=>simp[intOf];omega
  ·have ik:¬(k:Int)<(pn:Int):=om0;go_wp2;go_ret;exact⟨by rw[show hs.any (fun h=>decide (1000<h.n))=false from List.any_eq_false.2 (fun h hh=>by(obtain⟨q,hq,rfl⟩:=List.getElem_of_mem hh);(have h5:=hs1 q om0);rw[Qv hq]at h5;rw[h5];decide)];rfl,skB⟩
end
end Go.Proofs.YtcekcihijdipoaaGreat
