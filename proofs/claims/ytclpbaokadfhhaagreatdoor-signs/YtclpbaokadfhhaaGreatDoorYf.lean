import Derived.Test.YtclpbaokadfhhaaGreatDoorZt
import Derived.Test.YtclpbaokadfhhaaGreatDoorZj
set_option maxRecDepth 100000
set_option maxHeartbeats 8000000
namespace Go.Proofs.YtclpbaokadfhhaaGreatDoor
open Go.RowKit
namespace Nb
open Sc (Q)
def um(n i:Nat):Nat:=n/256^i%256
theorem wS(n i:Nat):um n i≤255:=by unfold um;omega
def mix(n x k:Nat):List Nat:=(List.range 33).map fun i=>if i<k then um n i else um x i
def nb(n:Nat):List Nat:=(List.range 33).map fun i=>um n i
theorem mix_length(n x k:Nat):(mix n x k).length=33:=by simp[mix]
theorem vW(n:Nat):(nb n).length=33:=by simp[nb]
theorem Bn(n x k i:Nat)(h:i<33):(mix n x k).getD i 0=if i<k then um n i else um x i:=by
 unfold mix;simp[List.getD,h]
theorem zx(n i:Nat)(h:i<33):(nb n).getD i 0=um n i:=by
 unfold nb;simp[List.getD,h]
theorem y7(n x:Nat):mix n x 0=nb x:=by
 unfold mix nb;simp
theorem Au(n x:Nat):mix n x 33=nb n:=by
 unfold mix nb;apply List.map_congr_left
 intro i hi;rw[if_pos (by simpa using hi)]
theorem list_ext{a b:List Nat}(h:a.length=b.length)(hg: ∀i,i<a.length→a.getD i 0=b.getD i 0):a=b:=by
 apply List.ext_getElem h
 intro i h1 h2;have:=hg i h1;simpa [List.getD,h1,h2]using this
theorem y8(n x k:Nat)(h:k<33):(mix n x k).set k (um n k)=mix n x (k+1):=by
 refine list_ext (by rw[List.length_set,mix_length,mix_length]) ?_;intro i hi;rw[List.length_set,mix_length]at hi;by_cases e:k=i
 ·subst e;rw[Po.xN _ _ _ (by rw[mix_length];exact h),Bn _ _ _ _ h,if_pos (by omega)]
 ·rw[Po.At _ _ _ _ e,Bn _ _ _ _ hi,Bn _ _ _ _ hi];by_cases c:i<k
  ·rw[if_pos c,if_pos (by omega)]
  ·rw[if_neg c,if_neg (by omega)]
def ord:List Nat:= [237,211,245,92,26,99,18,88,214,156,247,162,222,249,222,20,0,0,0,0,0,0,0,0,0,0,0,0,0,0,0,16]
theorem Bm: ∀i,i<32→ord.getD i 0=um Q i:=by decide+kernel
theorem Q_top:um Q 32=0:=by decide+kernel
theorem Q_lt:Q<256^32:=by decide+kernel
def cy(x y k:Nat):Nat:=(x%256^k+y%256^k)/256^k
theorem Av(x y:Nat):cy x y 0=0:=by unfold cy;simp[Nat.mod_one]
theorem cy_le(x y k:Nat):cy x y k≤1:=by
 unfold cy;have hp:0<256^k:=Nat.pow_pos (by omega);have h1:=Nat.mod_lt x hp;have h2:=Nat.mod_lt y hp;generalize 256^k=B at*;rw[←Nat.lt_succ_iff,Nat.div_lt_iff_lt_mul hp];omega
theorem zV(x y k:Nat):um (x+y) k=(cy x y k+um x k+um y k)%256∧cy x y (k+1)=(cy x y k+um x k+um y k)/256:=by
 have hp:0<256^k:=Nat.pow_pos (by omega);unfold cy um;constructor
 ·have e:(x+y)/256^k=x/256^k+y/256^k+(x%256^k+y%256^k)/256^k:=by
   have h1:=Nat.div_add_mod x (256^k);have h2:=Nat.div_add_mod y (256^k);generalize 256^k=B at*;have h3:x+y=(x%B+y%B)+B*(x/B+y/B):=by rw[Nat.mul_add];omega
   rw[h3,Nat.add_mul_div_left _ _ hp];omega
  rw[e];omega
 ·rw[Nat.mod_pow_succ,Nat.mod_pow_succ,Nat.pow_succ,←Nat.div_div_eq_div_mul];generalize 256^k=B at*;have h3:x%B+B*(x/B%256)+(y%B+B*(y/B%256))=(x%B+y%B)+B*(x/B%256+y/B%256):=by rw[Nat.mul_add];omega
  rw[h3,Nat.add_mul_div_left _ _ hp];congr 1
  omega
theorem top(x k:Nat):x/256^k=256*(x/256^(k+1))+um x k:=by
 unfold um;rw[Nat.pow_succ,←Nat.div_div_eq_div_mul];omega
theorem div_lt{x y B:Nat}(hp:0<B)(h:x/B<y/B):x<y:=by
 have h1:=Nat.div_add_mod x B;have h2:=Nat.div_add_mod y B;have h3:=Nat.mod_lt x hp;have h4:B*(x/B+1)≤B*(y/B):=Nat.mul_le_mul_left _ h;rw[Nat.mul_add]at h4;omega
theorem less_byte{x y k:Nat}(h:x/256^(k+1)=y/256^(k+1))(hne:um x k≠um y k):um x k<um y k↔x<y:=by
 have hp:0<256^k:=Nat.pow_pos (by omega);have h1:=top x k;have h2:=top y k;rw[h]at h1;constructor
 ·intro c;exact div_lt hp (by rw[h1,h2];omega)
 ·intro c;rcases Nat.lt_or_ge (um x k) (um y k)with d|d
  ·exact d
  ·have:y<x:=div_lt hp (by rw[h1,h2];omega);omega
theorem eq_byte{x y k:Nat}(h:x/256^(k+1)=y/256^(k+1))(he:um x k=um y k):x/256^k=y/256^k:=by
 rw[top x k,top y k,h,he]
theorem small_div{x:Nat}(h:x<256^33)(h0:um x 32=0):x<256^32:=by
 unfold um at h0;have:x/256^32<256:=by rw[Nat.div_lt_iff_lt_mul (by decide)];rw[show (256:Nat)*256^32=256^33 by decide];exact h
 rw[Nat.mod_eq_of_lt this]at h0;rcases Nat.div_eq_zero_iff.1 h0 with c|c
 ·exact absurd c (by decide)
 ·exact c
end Nb
theorem iP(w:World):Calls Tryz.prog 201 #[] w fun e w'=>e= .returned (.slice (some ⟨w.heap.size,0,none⟩) 32 32)∧w'=w.alloc (.cells (Us Nb.ord) 3):=by
 go_enter Tryz.func201,Tryz.ntmps201;go_wp2;go_ret;exact⟨rfl,rfl⟩
end Go.Proofs.YtclpbaokadfhhaaGreatDoor
namespace Go.Proofs.YtclpbaokadfhhaaGreatDoor
open Go.RowKit
theorem lE(x b cp:Nat)(w:World)(hx:x<256^33)(hb:Blk w b (Us (Nb.nb x)) 3):
  Rw 152 #[.slice (some ⟨b,0,none⟩) 33 cp] w (.bool (decide (x<Sc.Q))):=by
 have hbs:=hb.lt;have hb1:=hb.alloc (.cells (Us Nb.ord) 3);have hb2:Blk (w.alloc (.cells (Us Nb.ord) 3)) w.heap.size (Us Nb.ord) 3:=Blk.new w _ _;have BI:Below w.heap.size w (w.alloc (.cells (Us Nb.ord) 3)):=bR.alloc nR _;have g32:=aA hb1 32 (by rw[Nb.vW];omega);rw[Nb.zx x 32 (by omega)]at g32;have HX:Hid (x<256^33):=hx;clear hx hb;by_cases htop:0<Nb.um x 32
 ·have B8:decide (x<Sc.Q)=false:=by
   rw[decide_eq_false_iff_not];intro c;have h1:x<256^32:=Nat.lt_trans c Nb.Q_lt;have:Nb.um x 32=0:=by unfold Nb.um;rw[Nat.div_eq_of_lt h1]
   omega
  rw[B8];generalize Nb.um x 32=t at g32 htop;have ht:(0:Int)<(t:Int):=by omega
  have ht2:decide ((0:Int)<(t:Int))=true:=by rw[decide_eq_true_iff];exact ht
  go_enter Tryz.func152,Tryz.ntmps152;go_wp2_with (go_at_call 201;refine(iP _).mono ?_;rintro e wo ⟨rfl,hwo⟩;rw[hwo];clear hwo wo);go_ret;exact⟨rfl,BI⟩
 ·obtain ht0:Nb.um x 32=0:=by omega
  rw[ht0]at g32;have HS:=Nb.small_div HX.out ht0;replace HS:Hid (x<256^32):=HS;clear htop ht0;have HR:Hid (decide (x<Sc.Q)=decide (x<Sc.Q)):=rfl;generalize B8:decide (x<Sc.Q)=R at HR⊢;replace B8:Hid (decide (x<Sc.Q)=R):=B8;go_enter Tryz.func152,Tryz.ntmps152;go_wp2_with (go_at_call 201;refine(iP _).mono ?_;rintro e wo ⟨rfl,hwo⟩;rw[hwo];clear hwo wo);clear g32;generalize w.alloc (.cells (Us Nb.ord) 3)=w1 at hb1 hb2 BI⊢;go_loopw [4] (fun q wr=> ∃k:Nat,k≤32∧q= .int .i64 (31 - (k:Int))∧x/256^(32 - k)=Sc.Q/256^(32 - k)∧Blk wr b (Us (Nb.nb x)) 3∧Blk wr w.heap.size (Us Nb.ord) 3∧Below w.heap.size w wr) (fun q _=>(intOf q+1).toNat)
  case atStart=>
   refine⟨0,by omega,rfl,?_,hb1,hb2,BI⟩;rw[Nat.sub_zero,Nat.div_eq_of_lt HS.out,Nat.div_eq_of_lt Nb.Q_lt]
  case round=>
   clear hb1 hb2 BI;obtain⟨k,hk,rfl,heq,hb1,hb2,BI⟩:=hrel;by_cases hlt:k<32
   ·obtain⟨j,hj⟩: ∃j,j+k=31:=⟨31 - k,by omega⟩
    rw[show (31:Int) - (k:Int)=(j:Int) by omega];rw[show 32 - k=j+1 by omega]at heq;have g1:=aA hb1 j (by rw[Nb.vW];omega);have g2:=aA hb2 j (by show j<32;omega);rw[Nb.zx x j (by omega)]at g1;rw[Nb.Bm j (by omega)]at g2;have l1:= @Nb.less_byte x Sc.Q j heq;have l2:= @Nb.eq_byte x Sc.Q j heq;replace l1:Hid (Nb.um x j≠Nb.um Sc.Q j→(Nb.um x j<Nb.um Sc.Q j↔x<Sc.Q)):=l1;replace l2:Hid (Nb.um x j=Nb.um Sc.Q j→x/256^j=Sc.Q/256^j):=l2;have hkj:Hid (32 - (k+1)=j):=(by omega:32 - (k+1)=j);clear heq;generalize Nb.um x j=u at g1 l1 l2;generalize Nb.um Sc.Q j=v at g2 l1 l2;have j0:(0:Int)≤(j:Int):=by omega
    have j1:(j:Int)<33:=by omega
    have j2:(j:Int)<32:=by omega
    by_cases huv:u=v
    ·subst huv;have d1:((u:Int) !=(u:Int))=false:=by simp
     have heq2:=l2.out rfl;replace heq2:Hid (x/256^j=Sc.Q/256^j):=heq2;go_wp2_with (go_quiet (fail));go_roundw
     case rel=>exact⟨k+1,by omega,by go_num,by rw[hkj.out];exact heq2.out,hb1.drewN _,hb2.drewN _,below_drewN BI _⟩
     case measure=>simp[intOf]
    ·have d1:((u:Int) !=(v:Int))=true:=by simp;omega
     have d2:=l1.out huv;have d3:decide (u<v)=R:=by rw[←B8.out,decide_eq_decide,d2]
     clear d2;go_wp2_with (go_quiet (fail));go_ret;exact⟨by rw[←d3];rfl,below_drewN (below_drewN BI _) _⟩
   ·obtain rfl:k=32:=by omega
    rw[show (31:Int) - ((32:Nat):Int)= -1 by omega];have hR:R=false:=by
     rw[←B8.out,decide_eq_false_iff_not];rw[show 32 - 32=0 from rfl,Nat.pow_zero,Nat.div_one,Nat.div_one]at heq;omega
    subst hR;clear heq;go_wp2;go_ret;exact⟨rfl,BI⟩
theorem cF{w wr:World}{base B t:Nat}{l:List Nat}(hb:Blk wr B (Us l) t)(hle:base≤B)(BI:Below base w wr)(i x:Nat)(v:Int)(hv:v=(x:Int)):
  Blk (wr.setCell ⟨B,i,none⟩ (.int .i64 v)) B (Us (l.set i x)) t∧(∀b' cs t',b'≠B→Blk wr b' cs t'→Blk (wr.setCell ⟨B,i,none⟩ (.int .i64 v)) b' cs t')∧Below base w (wr.setCell ⟨B,i,none⟩ (.int .i64 v)):=by
 subst hv;refine⟨?_,?_,BI.setCell hle _⟩
 ·rw[hb.set,j4];exact hb.row _
 ·intro b' cs t' hne hb';rw[hb.set];exact hb'.other hne _
theorem kK(x b cp:Nat)(w:World)(hx:x<2*Sc.Q)(hb:Blk w b (Us (Nb.nb x)) 3):
  Calls Tryz.prog 240 #[.slice (some ⟨b,0,none⟩) 33 cp] w fun e w'=>e= .returned (.slice (some ⟨b,0,none⟩) 33 cp)∧Blk w' b (Us (Nb.nb (x%Sc.Q))) 3∧Below b w w':=by
 have hbs:=hb.lt;have h33:x<256^33:=by
  have h1:2*Sc.Q<256^33:=by decide+kernel
  exact Nat.lt_trans hx h1
 have HB:Hid (∀wx:World,Blk wx b (Us (Nb.nb x)) 3→Rw 152 #[.slice (some ⟨b,0,none⟩) 33 cp] wx (.bool (decide (x<Sc.Q)))):=fun wx h=>lE x b cp wx h33 h
 clear h33;have hmod:x%Sc.Q=if x<Sc.Q then x else x - Sc.Q:=by
  split
  ·rename_i c;exact Nat.mod_eq_of_lt c
  ·rename_i c
   rw[Nat.mod_eq_sub_mod (by omega),Nat.mod_eq_of_lt (by omega)]
 by_cases hlt:x<Sc.Q
 ·rw[if_pos hlt]at hmod;rw[hmod];rw[decide_eq_true hlt]at HB;clear hmod hlt hx;go_enter Tryz.func240,Tryz.ntmps240;go_wp2_with fail;refine(HB.out _ hb).mono ?_;rintro e w2 ⟨rfl,k2⟩;go_wp2;go_ret;exact⟨rfl,hb.keep k2,k2.mono (by omega)⟩
 ·rw[if_neg hlt]at hmod;obtain⟨n,hn⟩: ∃n,x=n+Sc.Q:=⟨x - Sc.Q,by omega⟩
  rw[show x%Sc.Q=n by omega];rw[decide_eq_false hlt]at HB;clear hmod hlt hx;replace hn:Hid (x=n+Sc.Q):=hn;go_enter Tryz.func240,Tryz.ntmps240;go_wp2_with fail;refine(HB.out _ hb).mono ?_;rintro e w2 ⟨rfl,k2⟩;replace hb:=hb.keep k2;have BI:Below b w w2:=k2.mono (by omega);clear k2 HB hbs;have hbs:=hb.lt;have hb1:=hb.alloc (.cells (Us Nb.ord) 3);have hb2:Blk (w2.alloc (.cells (Us Nb.ord) 3)) w2.heap.size (Us Nb.ord) 3:=Blk.new w2 _ _;replace BI:=BI.alloc (by omega) (.cells (Us Nb.ord) 3);clear hb;go_wp2_with (go_at_call 201;refine(iP _).mono ?_;rintro e wo ⟨rfl,hwo⟩;rw[hwo];clear hwo wo);generalize w2.alloc (.cells (Us Nb.ord) 3)=w1 at hb1 hb2 BI⊢;generalize w2.heap.size=q0 at hb2 hbs⊢;have hne:q0≠b:=by omega
  go_loopw [5,6,7] (fun c i d wr=> ∃k:Nat,k≤33∧i= .int .i64 k∧c= .int .i64 ((Nb.cy n Sc.Q k:Nat):Int)∧Blk wr b (Us (Nb.mix n x k)) 3∧Blk wr q0 (Us Nb.ord) 3∧Below b w wr) (fun _ i _ _=>33 - (intOf i).toNat)
  case atStart=>exact⟨0,by omega,rfl,by rw[Nb.Av];rfl,by rw[Nb.y7];exact hb1,hb2,BI⟩
  case round=>
   clear hb1 hb2 BI;obtain⟨k,hk,rfl,rfl,hb1,hb2,BI⟩:=hrel;by_cases hlt:k<33
   ·have k0:(k:Int)<33:=by omega
    have g1:=aA hb1 k (by rw[Nb.mix_length];omega);rw[Nb.Bn _ _ _ _ hlt,if_neg (by omega)]at g1;obtain⟨ea,ec⟩:=Nb.zV n Sc.Q k;rw[←hn.out]at ea;have hc:=Nb.cy_le n Sc.Q k;have hnk:=Nb.wS n k;have hqk:=Nb.wS Sc.Q k;have hxk:=Nb.wS x k;have ems:=Nb.y8 n x k hlt;have eq0:k=32→Nb.um Sc.Q k=0:=by rintro rfl;exact Nb.Q_top
    have g2:k<32→wr.cell? ⟨q0,k,none⟩=some (.int .i64 ((Nb.um Sc.Q k:Nat):Int)):=fun h=>by
     have:=aA hb2 k h;rw[Nb.Bm k h]at this;exact this
    replace ems:Hid ((Nb.mix n x k).set k (Nb.um n k)=Nb.mix n x (k+1)):=ems;replace ec:Hid (Nb.cy n Sc.Q (k+1)=(Nb.cy n Sc.Q k+Nb.um n k+Nb.um Sc.Q k)/256):=ec;have hlm:=Nb.mix_length n x k;generalize Nb.mix n x k=L at hb1 ems hlm;generalize Nb.cy n Sc.Q k=c at ea ec hc⊢;generalize Nb.um x k=xk at g1 ea hxk;generalize Nb.um n k=nk at ea ec hnk ems;generalize Nb.um Sc.Q k=qk at ea ec hqk eq0 g2;have f1:=hb1.frozen k;by_cases h32:k<32
    ·replace g2:=g2 h32;clear eq0;have k1:(k:Int)<32:=by omega
     by_cases hneg:(xk:Int) - (c:Int) - (qk:Int)<0
     ·have R1:=cF hb1 nR BI k nk ((xk:Int) - (c:Int) - (qk:Int)+256) (by omega);have ec2:(c+nk+qk)/256=1:=by omega
      rw[ec2]at ec;clear ea ec2;go_wp2;go_roundw
      case rel=>
       refine⟨k+1,by omega,by go_num,?_,?_,R1.2.1 _ _ _ hne hb2,R1.2.2⟩
       ·rw[ec.out];rfl
       ·rw[←ems.out];exact R1.1
      case measure=>simp[intOf];omega
     ·have R1:=cF hb1 nR BI k nk ((xk:Int) - (c:Int) - (qk:Int)) (by omega);have ec2:(c+nk+qk)/256=0:=by omega
      rw[ec2]at ec;clear ea ec2;go_wp2;go_roundw
      case rel=>
       refine⟨k+1,by omega,by go_num,?_,?_,R1.2.1 _ _ _ hne hb2,R1.2.2⟩
       ·rw[ec.out];rfl
       ·rw[←ems.out];exact R1.1
      case measure=>simp[intOf];omega
    ·have k1: ¬(k:Int)<32:=by omega
     have eq1:qk=0:=eq0 (by omega);subst eq1;clear g2 eq0;by_cases hneg:(xk:Int) - (c:Int)<0
     ·have R1:=cF hb1 nR BI k nk ((xk:Int) - (c:Int)+256) (by omega);have ec2:(c+nk+0)/256=1:=by omega
      rw[ec2]at ec;clear ea ec2;go_wp2;go_roundw
      case rel=>
       refine⟨k+1,by omega,by go_num,?_,?_,R1.2.1 _ _ _ hne hb2,R1.2.2⟩
       ·rw[ec.out];rfl
       ·rw[←ems.out];exact R1.1
      case measure=>simp[intOf];omega
     ·have R1:=cF hb1 nR BI k nk ((xk:Int) - (c:Int)) (by omega);have ec2:(c+nk+0)/256=0:=by omega
      rw[ec2]at ec;clear ea ec2;go_wp2;go_roundw
      case rel=>
       refine⟨k+1,by omega,by go_num,?_,?_,R1.2.1 _ _ _ hne hb2,R1.2.2⟩
       ·rw[ec.out];rfl
       ·rw[←ems.out];exact R1.1
      case measure=>simp[intOf];omega
   ·obtain rfl:k=33:=by omega
    rw[Nb.Au]at hb1;rw[show ((33:Nat):Int)=33 from rfl];go_wp2;go_ret;exact⟨rfl,hb1,BI⟩
def none33:List Nat:=List.replicate 33 0
theorem fJ:Nb.nb 0=none33:=by decide
theorem rP:none33.set 0 1=Nb.nb 1:=by decide
theorem jJ(w:World):(Instr.makeSlice 150 (.int .i64 33) (.int .i64 33)).run Tryz.prog w= .ok (.slice (some ⟨w.heap.size,0,none⟩) 33 33) (w.alloc (.cells (Us none33) 3)):=by kernel_rfl
theorem eC(x y ba ca bb cb:Nat)(w:World)(hx:x<Sc.Q)(hy:y<Sc.Q)(ha:Blk w ba (Us (Nb.nb x)) 3)(hb:Blk w bb (Us (Nb.nb y)) 3):
  Calls Tryz.prog 199 #[.slice (some ⟨ba,0,none⟩) 33 ca,.slice (some ⟨bb,0,none⟩) 33 cb] w fun e w'=>e= .returned (.slice (some ⟨w.heap.size,0,none⟩) 33 33)∧Blk w' w.heap.size (Us (Nb.nb ((x+y)%Sc.Q))) 3∧Below w.heap.size w w':=by
 have hm:=jJ w;have hl:Hid (∀wx:World,Blk wx w.heap.size (Us (Nb.nb (x+y))) 3→Calls Tryz.prog 240 #[.slice (some ⟨w.heap.size,0,none⟩) 33 33] wx fun e w'=>e= .returned (.slice (some ⟨w.heap.size,0,none⟩) 33 33)∧Blk w' w.heap.size (Us (Nb.nb ((x+y)%Sc.Q))) 3∧Below w.heap.size wx w'):=fun wx h=>kK (x+y) w.heap.size 33 wx (by omega) h
 generalize Nb.nb ((x+y)%Sc.Q)=RR at hl⊢;have h0:Blk (w.alloc (.cells (Us none33) 3)) w.heap.size (Us (Nb.nb 0)) 3:=by rw[fJ];exact Blk.new w _ _
 have BI:Below w.heap.size w (w.alloc (.cells (Us none33) 3)):=bR.alloc nR _;clear hx hy;go_enter Tryz.func199,Tryz.ntmps199;go_wp2;clear hm;generalize w.alloc (.cells (Us none33) 3)=w1 at h0 BI⊢;go_loopw [6,7] (fun c i wr=> ∃k:Nat,k≤33∧i= .int .i64 k∧c= .int .i64 ((Nb.cy x y k:Nat):Int)∧Blk wr w.heap.size (Us (Nb.mix (x+y) 0 k)) 3∧Below w.heap.size w wr) (fun _ i _=>33 - (intOf i).toNat)
 case atStart=>exact⟨0,by omega,rfl,by rw[Nb.Av];rfl,by rw[Nb.y7];exact h0,BI⟩
 case round=>
  clear h0 BI;obtain⟨k,hk,rfl,rfl,h0,BI⟩:=hrel;by_cases hlt:k<33
  ·have k0:(k:Int)<33:=by omega
   have g1:=aA (ha.keep BI) k (by rw[Nb.vW];omega);have g2:=aA (hb.keep BI) k (by rw[Nb.vW];omega);rw[Nb.zx _ _ hlt]at g1 g2;obtain⟨ea,ec⟩:=Nb.zV x y k;have hc:=Nb.cy_le x y k;have hxk:=Nb.wS x k;have hyk:=Nb.wS y k;have ems:=Nb.y8 (x+y) 0 k hlt;replace ems:Hid ((Nb.mix (x+y) 0 k).set k (Nb.um (x+y) k)=Nb.mix (x+y) 0 (k+1)):=ems;replace ec:Hid (Nb.cy x y (k+1)=(Nb.cy x y k+Nb.um x k+Nb.um y k)/256):=ec;have hlm:=Nb.mix_length (x+y) 0 k;generalize Nb.mix (x+y) 0 k=L at h0 ems hlm;generalize Nb.cy x y k=c at ea ec hc⊢;generalize Nb.um x k=xk at g1 ea hxk ec;generalize Nb.um y k=yk at g2 ea hyk ec;generalize Nb.um (x+y) k=nk at ea ems;have f1:=fun n=>(h0.drewN n).frozen k
   have g3:=aA h0 k (by omega);have R1:=fun n=>cF (h0.drewN n) nR (below_drewN BI n) k nk (((c:Int)+(xk:Int)+(yk:Int))%256) (by omega)
   clear ea;go_wp2_with (go_quiet (fail));go_roundw
   case rel=>
    refine⟨k+1,by omega,by go_num,?_,?_,(R1 _).2.2⟩
    ·rw[ec.out];exact aP (by omega)
    ·rw[←ems.out];exact(R1 _).1
   case measure=>simp[intOf];omega
  ·obtain rfl:k=33:=by omega
   rw[Nb.Au]at h0;rw[show ((33:Nat):Int)=33 from rfl];go_wp2_with fail;refine(hl.out _ h0).mono ?_;rintro e w3 ⟨rfl,h3,k3⟩;go_wp2;go_ret;exact⟨rfl,h3,BI.trans k3⟩
theorem iW(Z:Nat):(Z%Sc.Q+Z%Sc.Q)%Sc.Q=(2*Z)%Sc.Q:=by rw[←Nat.add_mod,Nat.two_mul]
theorem kX(Z y:Nat):((2*Z)%Sc.Q+y)%Sc.Q=(2*Z+y)%Sc.Q:=by rw[Nat.mod_add_mod]
theorem jX(N j:Nat):N/2^j=2*(N/2^(j+1))+N/2^j%2:=by
 rw[Nat.pow_succ,←Nat.div_div_eq_div_mul];omega
theorem lj(s:ByteArray)(j:Nat)(hj:j<8*s.size):byt s (j/8)/2^(j%8)%2=((Sc.num s.data.toList/2^j%2:Nat):Int):=by
 have hl:s.data.toList.length=s.size:=by simp
 rw[Sc.Am _ _ (by rw[hl];exact hj)];unfold byt;simp
theorem gP(s:ByteArray)(w:World)(hs:s.size≤100000):
  Calls Tryz.prog 153 #[.string s] w fun e w'=> ∃b:Nat,e= .returned (.slice (some ⟨b,0,none⟩) 33 33)∧w.heap.size≤b∧Blk w' b (Us (Nb.nb (Sc.num s.data.toList%Sc.Q))) 3∧Below w.heap.size w w':=by
 have Cn:=Sc.yJ s.data.toList;rw[show s.data.toList.length=s.size by simp]at Cn;have Ch:=lj s;generalize Sc.num s.data.toList=N at Cn Ch⊢;replace Cn:Hid (N<2^(8*s.size)):=Cn;replace Ch:Hid (∀j,j<8*s.size→byt s (j/8)/2^(j%8)%2=((N/2^j%2:Nat):Int)):=Ch;have hQ0:Hid (0<Sc.Q):=(by decide+kernel:0<Sc.Q);have hm:=jJ w;have hm2:=jJ (w.alloc (.cells (Us none33) 3));have e1:(Us none33).setIfInBounds 0 (.int .i64 1)=Us (Nb.nb 1):=by rw[←rP];exact j4 none33 0 1
 have h0:Blk ((w.alloc (.cells (Us none33) 3)).alloc (.cells (Us (Nb.nb 1)) 3)) w.heap.size (Us (Nb.nb 0)) 3:=by rw[fJ];exact heap_alloc2_old w _ _
 have h1:Blk ((w.alloc (.cells (Us none33) 3)).alloc (.cells (Us (Nb.nb 1)) 3)) (w.heap.size+1) (Us (Nb.nb 1)) 3:=heap_alloc2_new w _ _;have BI:Below w.heap.size w ((w.alloc (.cells (Us none33) 3)).alloc (.cells (Us (Nb.nb 1)) 3)):=(bR.alloc nR _).alloc (by simp) _;have hB:Blk ((w.alloc (.cells (Us none33) 3)).alloc (.cells (Us none33) 3)) (w.heap.size+1) (Us none33) 3:=heap_alloc2_new w _ _;rw[show (w.alloc (.cells (Us none33) 3)).heap.size=w.heap.size+1 by simp]at hm2;have f1:=hB.frozen 0;have g1:=aA hB 0 (by decide);clear hB;have s0:(0:Int)≤(s.size:Int):=by omega
 have s1:(s.size:Int)≤100000:=by omega
 go_enter Tryz.func153,Tryz.ntmps153;go_wp2;clear hm hm2 f1 g1;generalize (w.alloc (.cells (Us none33) 3)).alloc (.cells (Us (Nb.nb 1)) 3)=w1 at h0 h1 BI⊢;go_loopw [3,5] (fun a i wr=> ∃k b:Nat,k≤8*s.size∧i= .int .i64 (8*(s.size:Int) - 1 - (k:Int))∧a= .slice (some ⟨b,0,none⟩) 33 33∧w.heap.size≤b∧Blk wr b (Us (Nb.nb (N/2^(8*s.size - k)%Sc.Q))) 3∧Blk wr (w.heap.size+1) (Us (Nb.nb 1)) 3∧Below w.heap.size w wr) (fun _ i _=>(intOf i+1).toNat)
 case atStart=>
  refine⟨0,_,by omega,by rw[Int.natCast_zero,Int.sub_zero],rfl,Nat.le_refl _,?_,h1,BI⟩;rw[Nat.sub_zero,Nat.div_eq_of_lt Cn.out,Nat.zero_mod];exact h0
 case round=>
  clear h0 h1 BI;obtain⟨k,b,hk,rfl,rfl,hle,h0,h1,BI⟩:=hrel;by_cases hlt:k<8*s.size
  ·obtain⟨j,hj⟩: ∃j,j+k+1=8*s.size:=⟨8*s.size - 1 - k,by omega⟩
   rw[show 8*(s.size:Int) - 1 - (k:Int)=(j:Int) by omega];rw[show 8*s.size - k=j+1 by omega]at h0;have hkj:Hid (8*s.size - (k+1)=j):=(by omega:8*s.size - (k+1)=j);have BX:Hid (∀wx:World,Calls Tryz.prog 83 #[.string s,.int .i64 (j:Int)] wx fun e w'=>e= .returned (.int .i64 (byt s (j/8)/2^(j%8)%2))∧w'=wx):=fun wx=>fP s j wx (by omega) (by omega)
   rw[Ch.out j (by omega)]at BX;have hm:=jX N j;have hb2:N/2^j%2=0∨N/2^j%2=1:=by omega
   generalize N/2^j%2=bt at BX hm hb2;generalize N/2^(j+1)=X at h0 hm;replace hm:Hid (N/2^j=2*X+bt):=hm;have HA1:=eC (X%Sc.Q) (X%Sc.Q) b 33 b 33 wr (Nat.mod_lt _ hQ0.out) (Nat.mod_lt _ hQ0.out) h0 h0;rw[iW]at HA1;replace HA1:Hid (Calls Tryz.prog 199 #[.slice (some ⟨b,0,none⟩) 33 33,.slice (some ⟨b,0,none⟩) 33 33] wr fun e w'=>e= .returned (.slice (some ⟨wr.heap.size,0,none⟩) 33 33)∧Blk w' wr.heap.size (Us (Nb.nb (2*(X)%Sc.Q))) 3∧Below wr.heap.size wr w'):=HA1;have j0:(0:Int)≤(j:Int):=by omega
   have j1:(j:Int)≤800000:=by omega
   have hsz:=BI.size;go_wp2_with fail;refine HA1.out.mono ?_;rintro e w3 ⟨rfl,h3,k3⟩;have hle3:w.heap.size≤wr.heap.size:=hsz;replace h1:=h1.keep k3;replace BI:=BI.trans (k3.mono hsz);clear HA1 k3 hle hsz h0;generalize wr.heap.size=b3 at h3 hle3⊢;go_wp2_with fail;refine(BX.out _).mono ?_;rintro e w4 ⟨rfl,hw4⟩;rw[hw4];clear hw4 w4 BX;rcases hb2 with rfl|rfl
   ·rw[show ((0:Nat):Int)=0 from rfl];go_wp2;go_roundw
    case rel=>
     refine⟨k+1,b3,by omega,by go_num,rfl,hle3,?_,h1,BI⟩;rw[hkj.out,hm.out,Nat.add_zero];exact h3
    case measure=>simp[intOf]
   ·rw[show ((1:Nat):Int)=1 from rfl];have HA2:=eC (2*(X)%Sc.Q) 1 b3 33 (w.heap.size+1) 33 w3 (Nat.mod_lt _ hQ0.out) (by decide+kernel) h3 h1;rw[kX]at HA2;replace HA2:Hid (Calls Tryz.prog 199 #[.slice (some ⟨b3,0,none⟩) 33 33,.slice (some ⟨(w.heap.size+1),0,none⟩) 33 33] w3 fun e w'=>e= .returned (.slice (some ⟨w3.heap.size,0,none⟩) 33 33)∧Blk w' w3.heap.size (Us (Nb.nb ((2*(X)+1)%Sc.Q))) 3∧Below w3.heap.size w3 w'):=HA2;have hsz:=BI.size;go_wp2_with fail;refine HA2.out.mono ?_;rintro e w5 ⟨rfl,h5,k5⟩;replace h1:=h1.keep k5;replace BI:=BI.trans (k5.mono hsz);clear HA2 k5 h3;generalize w3.heap.size=b5 at h5 hsz⊢;go_wp2;go_roundw
    case rel=>
     refine⟨k+1,b5,by omega,by go_num,rfl,hsz,?_,h1,BI⟩;rw[hkj.out,hm.out];exact h5
    case measure=>simp[intOf]
  ·obtain rfl:k=8*s.size:=by omega
   rw[Nat.sub_self,Nat.pow_zero,Nat.div_one]at h0;rw[show 8*(s.size:Int) - 1 - ((8*s.size:Nat):Int)= -1 by omega];go_wp2;go_ret;exact⟨b,rfl,hle,h0,BI⟩
theorem nU(s:ByteArray)(y bb cb:Nat)(w:World)(hs:s.size≤100000)(hy:y<Sc.Q)(hb:Blk w bb (Us (Nb.nb y)) 3):
  Calls Tryz.prog 200 #[.string s,.slice (some ⟨bb,0,none⟩) 33 cb] w fun e w'=> ∃b:Nat,e= .returned (.slice (some ⟨b,0,none⟩) 33 33)∧w.heap.size≤b∧Blk w' b (Us (Nb.nb (Sc.num s.data.toList*y%Sc.Q))) 3∧Below w.heap.size w w':=by
 have Cn:=Sc.yJ s.data.toList;rw[show s.data.toList.length=s.size by simp]at Cn;have Ch:=lj s;generalize Sc.num s.data.toList=N at Cn Ch⊢;replace Cn:Hid (N<2^(8*s.size)):=Cn;replace Ch:Hid (∀j,j<8*s.size→byt s (j/8)/2^(j%8)%2=((N/2^j%2:Nat):Int)):=Ch;have hQ0:Hid (0<Sc.Q):=(by decide+kernel:0<Sc.Q);have hm:=jJ w;have h0:Blk (w.alloc (.cells (Us none33) 3)) w.heap.size (Us (Nb.nb 0)) 3:=by rw[fJ];exact Blk.new w _ _
 have BI:Below w.heap.size w (w.alloc (.cells (Us none33) 3)):=bR.alloc nR _;have h1:=hb.keep BI;clear hb;have s0:(0:Int)≤(s.size:Int):=by omega
 have s1:(s.size:Int)≤100000:=by omega
 replace hy:Hid (y<Sc.Q):=hy;go_enter Tryz.func200,Tryz.ntmps200;go_wp2;clear hm;generalize w.alloc (.cells (Us none33) 3)=w1 at h0 h1 BI⊢;go_loopw [5,6] (fun a i wr=> ∃k b:Nat,k≤8*s.size∧i= .int .i64 (8*(s.size:Int) - 1 - (k:Int))∧a= .slice (some ⟨b,0,none⟩) 33 33∧w.heap.size≤b∧Blk wr b (Us (Nb.nb (N/2^(8*s.size - k)*y%Sc.Q))) 3∧Blk wr bb (Us (Nb.nb y)) 3∧Below w.heap.size w wr) (fun _ i _=>(intOf i+1).toNat)
 case atStart=>
  refine⟨0,_,by omega,by rw[Int.natCast_zero,Int.sub_zero],rfl,Nat.le_refl _,?_,h1,BI⟩;rw[Nat.sub_zero,Nat.div_eq_of_lt Cn.out,Nat.zero_mul,Nat.zero_mod];exact h0
 case round=>
  clear h0 h1 BI;obtain⟨k,b,hk,rfl,rfl,hle,h0,h1,BI⟩:=hrel;by_cases hlt:k<8*s.size
  ·obtain⟨j,hj⟩: ∃j,j+k+1=8*s.size:=⟨8*s.size - 1 - k,by omega⟩
   rw[show 8*(s.size:Int) - 1 - (k:Int)=(j:Int) by omega];rw[show 8*s.size - k=j+1 by omega]at h0;have hkj:Hid (8*s.size - (k+1)=j):=(by omega:8*s.size - (k+1)=j);have BX:Hid (∀wx:World,Calls Tryz.prog 83 #[.string s,.int .i64 (j:Int)] wx fun e w'=>e= .returned (.int .i64 (byt s (j/8)/2^(j%8)%2))∧w'=wx):=fun wx=>fP s j wx (by omega) (by omega)
   rw[Ch.out j (by omega)]at BX;have hm:=jX N j;have hb2:N/2^j%2=0∨N/2^j%2=1:=by omega
   generalize N/2^j%2=bt at BX hm hb2;generalize N/2^(j+1)=X at h0 hm;replace hm:Hid (N/2^j=2*X+bt):=hm;have HA1:=eC (X*y%Sc.Q) (X*y%Sc.Q) b 33 b 33 wr (Nat.mod_lt _ hQ0.out) (Nat.mod_lt _ hQ0.out) h0 h0;rw[iW]at HA1;replace HA1:Hid (Calls Tryz.prog 199 #[.slice (some ⟨b,0,none⟩) 33 33,.slice (some ⟨b,0,none⟩) 33 33] wr fun e w'=>e= .returned (.slice (some ⟨wr.heap.size,0,none⟩) 33 33)∧Blk w' wr.heap.size (Us (Nb.nb (2*(X*y)%Sc.Q))) 3∧Below wr.heap.size wr w'):=HA1;have j0:(0:Int)≤(j:Int):=by omega
   have j1:(j:Int)≤800000:=by omega
   have hsz:=BI.size;go_wp2_with fail;refine HA1.out.mono ?_;rintro e w3 ⟨rfl,h3,k3⟩;have hle3:w.heap.size≤wr.heap.size:=hsz;replace h1:=h1.keep k3;replace BI:=BI.trans (k3.mono hsz);clear HA1 k3 hle hsz h0;generalize wr.heap.size=b3 at h3 hle3⊢;go_wp2_with fail;refine(BX.out _).mono ?_;rintro e w4 ⟨rfl,hw4⟩;rw[hw4];clear hw4 w4 BX;rcases hb2 with rfl|rfl
   ·rw[show ((0:Nat):Int)=0 from rfl];go_wp2;go_roundw
    case rel=>
     refine⟨k+1,b3,by omega,by go_num,rfl,hle3,?_,h1,BI⟩;rw[hkj.out,hm.out,Nat.add_zero,Nat.mul_assoc];exact h3
    case measure=>simp[intOf]
   ·rw[show ((1:Nat):Int)=1 from rfl];have HA2:=eC (2*(X*y)%Sc.Q) y b3 33 bb cb w3 (Nat.mod_lt _ hQ0.out) hy.out h3 h1;rw[kX]at HA2;replace HA2:Hid (Calls Tryz.prog 199 #[.slice (some ⟨b3,0,none⟩) 33 33,.slice (some ⟨bb,0,none⟩) 33 cb] w3 fun e w'=>e= .returned (.slice (some ⟨w3.heap.size,0,none⟩) 33 33)∧Blk w' w3.heap.size (Us (Nb.nb ((2*(X*y)+y)%Sc.Q))) 3∧Below w3.heap.size w3 w'):=HA2;have hsz:=BI.size;go_wp2_with fail;refine HA2.out.mono ?_;rintro e w5 ⟨rfl,h5,k5⟩;replace h1:=h1.keep k5;replace BI:=BI.trans (k5.mono hsz);clear HA2 k5 h3;generalize w3.heap.size=b5 at h5 hsz⊢;go_wp2;go_roundw
    case rel=>
     refine⟨k+1,b5,by omega,by go_num,rfl,hsz,?_,h1,BI⟩;rw[hkj.out,hm.out,Nat.add_mul,Nat.one_mul,Nat.mul_assoc];exact h5
    case measure=>simp[intOf]
  ·obtain rfl:k=8*s.size:=by omega
   rw[Nat.sub_self,Nat.pow_zero,Nat.div_one]at h0;rw[show 8*(s.size:Int) - 1 - ((8*s.size:Nat):Int)= -1 by omega];go_wp2;go_ret;exact⟨b,rfl,hle,h0,BI⟩
theorem kf(x b cb:Nat)(w:World)(hb:Blk w b (Us (Nb.nb x)) 3):
  Rw 154 #[.slice (some ⟨b,0,none⟩) 33 cb] w (.string ⟨(Fd.lo x 32).toArray⟩):=by
 go_enter Tryz.func154,Tryz.ntmps154;go_wp2;go_loopw [3,4] (fun s i wr=> ∃k:Nat,k≤32∧i= .int .i64 k∧s= .string ⟨(Fd.lo x k).toArray⟩∧Below w.heap.size w wr) (fun _ i _=>32 - (intOf i).toNat)
 case atStart=>exact⟨0,by omega,rfl,rfl,Below.refl _ _⟩
 case round=>
  obtain⟨k,hk,rfl,rfl,BI⟩:=hrel;by_cases hlt:k<32
  ·have k0:(k:Int)<32:=by omega
   have k1:(k:Int)<33:=by omega
   have g1:=aA (hb.keep BI) k (by rw[Nb.vW];omega);rw[Nb.zx _ _ (by omega)]at g1;have hlt8:=Nb.wS x k;have hl:=Fd.tV x k;have HS:Hid (Fd.lo x (k+1)=Fd.lo x k++Fd.lo (Nb.um x k) 1):=by
    show Fd.lo x k++ [UInt8.ofNat (x/256^k%256)]=Fd.lo x k++ [UInt8.ofNat (x/256^k%256/256^0%256)]
    rw[Nat.pow_zero,Nat.div_one,Nat.mod_mod]
   have HB:Hid (Rv 75 #[.int .i64 ((Nb.um x k:Nat):Int),.int .i64 1] (.string ⟨(Fd.lo (Nb.um x k) 1).toArray⟩)):=fun wx=>bP _ _ (Nb.um x k) 1 rfl rfl (by omega) (by omega) wx
   have hl1:=Fd.tV (Nb.um x k) 1;generalize Fd.lo (Nb.um x k) 1=B at HS HB hl1;generalize Nb.um x k=xk at g1 hlt8 HB;generalize Fd.lo x k=L at hl HS⊢;have Cs:Op.stringOp .add ⟨L.toArray⟩ ⟨B.toArray⟩=pure (.string ⟨(L++B).toArray⟩):=by
    rw[aH _ _ (by show L.toArray.size+B.toArray.size≤_;rw[List.size_toArray,List.size_toArray];omega)];congr 2
   go_wp2_with (go_at_call 75;refine gv HB fun w3 k3=> ?_);go_roundw
   case rel=>
    refine⟨k+1,by omega,by go_num,by rw[HS.out],BI.trans (k3.mono BI.size)⟩
   case measure=>simp[intOf];omega
  ·obtain rfl:k=32:=by omega
   rw[show ((32:Nat):Int)=32 from rfl];go_wp2;go_ret;exact⟨rfl,BI⟩
namespace Rs
def D(s:ByteArray):ByteArray:=Sha.OfB Sha.K s
def rest(s:ByteArray):ByteArray:=(D s).extract 32 64
def yW(s:ByteArray):Nat:=Sc.num s.data.toList
def b32(n:Nat):ByteArray:=⟨(Fd.lo n 32).toArray⟩
theorem xT(n:Nat):(b32 n).size=32:=by
 show(Fd.lo n 32).toArray.size=32
 rw[List.size_toArray,Fd.tV]
def once(s d:ByteArray):Nat:=yW (D (rest s++d))%Sc.Q
def first(s d:ByteArray):ByteArray:=⟨(Rp.bytes (Rp.tU (b32 (once s d)) Rp.base)).toArray⟩
theorem zh(s d:ByteArray):(first s d).size=32:=by
 show(Rp.bytes (Rp.tU (b32 (once s d)) Rp.base)).toArray.size=32
 rw[List.size_toArray,Rp.bytes_length]
def tie(f i d:ByteArray):Nat:=yW (D (f++i++d))%Sc.Q
def prod(s d:ByteArray):Nat:=yW (Rp.secret s)*tie (first s d) (Rp.uq s) d%Sc.Q
def last(s d:ByteArray):Nat:=(once s d+prod s d)%Sc.Q
def sign(s d:ByteArray):ByteArray:=first s d++b32 (last s d)
def uI(s d:ByteArray):ByteArray×Int:=if s.size=32∧d.size≤12000 then(sign s d,0)else (⟨#[]⟩,1)
theorem AM:0<Sc.Q:=by decide+kernel
end Rs
theorem so(s d:ByteArray)(hs:s.size=32)(hd:d.size≤100000)(w:World):
  Rw 151 #[.string s,.string d] w (.string (Rs.sign s d)):=by
 have hz2:=Rp.xz;have H1:Hid (Rv 36 #[.string s] (.string (Rs.D s))):=fun wx=>aT s wx (by omega)
 have hx:Hid ((Rs.D s).extract 0 32=Rp.half s):=rfl;have hx2:Hid ((Rs.D s).extract 32 64=Rs.rest s):=rfl;have hsz:(Rs.D s).size=64:=Sha.uh Sha.K s;have hrs:(Rs.rest s).size=32:=by
  unfold Rs.rest;rw[ByteArray.size_extract,hsz];rfl
 have H2:Hid (Rv 38 #[.string (Rp.half s)] (.string (Rp.secret s))):=fun wx=>fu _ wx (Rp.zI s)
 have e1:Rp.idR s=(Rp.uq s,0):=by unfold Rp.idR;rw[if_pos hs]
 have H3:Hid (Rv 21 #[.string s] (.tuple #[.string (Rp.uq s),.int .i64 0])):=fun wx=>by
  have:=cB s wx;rw[e1]at this;exact this
 clear e1;have hsd:(Rs.rest s++d).size=32+d.size:=by rw[ByteArray.size_append,hrs]
 have A1:Hid (Op.stringOp .add (Rs.rest s) d=pure (.string (Rs.rest s++d))):=aH _ _ (by rw[hrs];omega);have H4:Hid (Rv 36 #[.string (Rs.rest s++d)] (.string (Rs.D (Rs.rest s++d)))):=fun wx=>aT _ wx (by omega)
 have H5:Hid (∀wx:World,Calls Tryz.prog 153 #[.string (Rs.D (Rs.rest s++d))] wx fun e w'=> ∃b:Nat,e= .returned (.slice (some ⟨b,0,none⟩) 33 33)∧wx.heap.size≤b∧Blk w' b (Us (Nb.nb (Rs.once s d))) 3∧Below wx.heap.size wx w'):=fun wx=>gP _ wx (by rw[show (Rs.D (Rs.rest s++d)).size=64 from Sha.uh Sha.K _];omega)
 have H6:Hid (∀(wx:World) (b:Nat),Blk wx b (Us (Nb.nb (Rs.once s d))) 3→Rw 154 #[.slice (some ⟨b,0,none⟩) 33 33] wx (.string (Rs.b32 (Rs.once s d)))):=fun wx b h=>kf _ b 33 wx h
 have H7:Hid (Rv 39 #[] (.agg (Ns (Rp.row Rp.base)))):=fun wx=>ka wx
 have H8:Hid (Rv 37 #[.string (Rs.b32 (Rs.once s d)),.agg (Ns (Rp.row Rp.base))] (.agg (Ns (Rp.row (Rp.tU (Rs.b32 (Rs.once s d)) Rp.base))))):=fun wx=>dC _ _ (Rs.xT _) Rp.base_fine wx
 have hf:=Rp.vQ (Rs.b32 (Rs.once s d)) Rp.base Rp.base_fine;have H9:Hid (Rv 40 #[.agg (Ns (Rp.row (Rp.tU (Rs.b32 (Rs.once s d)) Rp.base)))] (.string (Rs.first s d))):=fun wx=>dM _ hf wx
 have sR:(Ns (Rp.row (Rp.tU (Rs.b32 (Rs.once s d)) Rp.base))).size=64:=by rw[aK,hf.row]
 clear hf;have hfs:=Rs.zh s d;have his:=Rp.zk s;have A2:Hid (Op.stringOp .add (Rs.first s d) (Rp.uq s)=pure (.string (Rs.first s d++Rp.uq s))):=aH _ _ (by rw[hfs,his];omega);have hfi:(Rs.first s d++Rp.uq s).size=64:=by rw[ByteArray.size_append,hfs,his]
 have A3:Hid (Op.stringOp .add (Rs.first s d++Rp.uq s) d=pure (.string (Rs.first s d++Rp.uq s++d))):=aH _ _ (by rw[hfi];omega);have hfid:(Rs.first s d++Rp.uq s++d).size=64+d.size:=by rw[ByteArray.size_append,hfi]
 have H10:Hid (Rv 36 #[.string (Rs.first s d++Rp.uq s++d)] (.string (Rs.D (Rs.first s d++Rp.uq s++d)))):=fun wx=>aT _ wx (by omega)
 have H11:Hid (∀wx:World,Calls Tryz.prog 153 #[.string (Rs.D (Rs.first s d++Rp.uq s++d))] wx fun e w'=> ∃b:Nat,e= .returned (.slice (some ⟨b,0,none⟩) 33 33)∧wx.heap.size≤b∧Blk w' b (Us (Nb.nb (Rs.tie (Rs.first s d) (Rp.uq s) d))) 3∧Below wx.heap.size wx w'):=fun wx=>gP _ wx (by rw[show (Rs.D (Rs.first s d++Rp.uq s++d)).size=64 from Sha.uh Sha.K _];omega)
 have H12:Hid (∀(wx:World) (b:Nat),Blk wx b (Us (Nb.nb (Rs.tie (Rs.first s d) (Rp.uq s) d))) 3→Calls Tryz.prog 200 #[.string (Rp.secret s),.slice (some ⟨b,0,none⟩) 33 33] wx fun e w'=> ∃b':Nat,e= .returned (.slice (some ⟨b',0,none⟩) 33 33)∧wx.heap.size≤b'∧Blk w' b' (Us (Nb.nb (Rs.prod s d))) 3∧Below wx.heap.size wx w'):=fun wx b h=>nU _ _ b 33 wx (by rw[Rp.xI];omega) (Nat.mod_lt _ Rs.AM) h
 have H13:Hid (∀(wx:World) (b b':Nat),Blk wx b (Us (Nb.nb (Rs.once s d))) 3→Blk wx b' (Us (Nb.nb (Rs.prod s d))) 3→Calls Tryz.prog 199 #[.slice (some ⟨b,0,none⟩) 33 33,.slice (some ⟨b',0,none⟩) 33 33] wx fun e w'=>e= .returned (.slice (some ⟨wx.heap.size,0,none⟩) 33 33)∧Blk w' wx.heap.size (Us (Nb.nb (Rs.last s d))) 3∧Below wx.heap.size wx w'):=fun wx b b' h h'=>eC _ _ b 33 b' 33 wx (Nat.mod_lt _ Rs.AM) (Nat.mod_lt _ Rs.AM) h h'
 have H14:Hid (∀(wx:World) (b:Nat),Blk wx b (Us (Nb.nb (Rs.last s d))) 3→Rw 154 #[.slice (some ⟨b,0,none⟩) 33 33] wx (.string (Rs.b32 (Rs.last s d)))):=fun wx b h=>kf _ b 33 wx h
 have A4:Hid (Op.stringOp .add (Rs.first s d) (Rs.b32 (Rs.last s d))=pure (.string (Rs.sign s d))):=aH _ _ (by rw[hfs,Rs.xT];omega);clear hfi hfid hsd hfs his;generalize Rs.sign s d=SG at A4⊢;generalize Rs.b32 (Rs.last s d)=BL at A4 H14;generalize Nb.nb (Rs.last s d)=NL at H13 H14;generalize Nb.nb (Rs.prod s d)=NP at H12 H13;generalize Nb.nb (Rs.tie (Rs.first s d) (Rp.uq s) d)=NT at H11 H12;generalize Rs.D (Rs.first s d++Rp.uq s++d)=DT at H10 H11;generalize Rs.first s d++Rp.uq s++d=FID at A3 H10;generalize Rs.first s d++Rp.uq s=FI at A2 A3;generalize Rs.first s d=F at A2 A4 H9;generalize Rp.uq s=I at A2 H3;generalize Rp.row (Rp.tU (Rs.b32 (Rs.once s d)) Rp.base)=R at H8 H9 sR;generalize Rp.row Rp.base=B at H7 H8;generalize Rs.b32 (Rs.once s d)=BO at H6 H8;generalize Nb.nb (Rs.once s d)=NO at H5 H6 H13;generalize Rs.D (Rs.rest s++d)=DO at H4 H5;generalize Rs.rest s++d=RD at A1 H4;generalize Rs.rest s=L2 at hx2 A1 hrs;generalize Rp.secret s=C at H2 H12;generalize Rp.half s=L at hx H2;generalize Rs.D s=DD at H1 hx hx2 hsz;clear hs hd hrs;have sZ:=Rp.wR;generalize Rp.Z64=ZO at hz2 sZ;have sZ':=Nz sZ;go_enter Tryz.func151,Tryz.ntmps151;go_wp2_with fail;refine gv H1 fun w1 bel=> ?_
 have hL:=hx.out;go_wp2_with fail;refine gv H2 fun w2 k=> ?_
 replace bel:=bel.trans (k.mono bel.size);clear hL k w1;go_wp2_with fail;refine gv H3 fun w3 k=> ?_
 replace bel:=bel.trans (k.mono bel.size);clear k w2;have hL:=hx2.out;have hA:=A1.out;go_wp2_with fail;refine gv H4 fun w4 k=> ?_
 replace bel:=bel.trans (k.mono bel.size);clear k w3 hL hA hsz;go_wp2_with fail;refine(H5.out _).mono ?_;rintro e w5 ⟨b1,rfl,hlb,h1,k⟩;replace bel:=bel.trans (k.mono bel.size);clear k hlb w4;go_wp2_with fail;refine(H6.out _ _ h1).mono ?_;rintro e w6 ⟨rfl,k⟩;replace bel:=bel.trans (k.mono bel.size);replace h1:=h1.keep k;clear k w5;go_wp2_with fail;refine gv H7 fun w7 k=> ?_
 replace bel:=bel.trans (k.mono bel.size);replace h1:=h1.keep k;clear k w6;go_wp2_with fail;refine gv H8 fun w8 k=> ?_
 replace bel:=bel.trans (k.mono bel.size);replace h1:=h1.keep k;clear k w7;have hN:=Blk.new w8 (Ns ZO) 61;have gz:=hN;unfold Blk at gz;have h2:=hN.row (Ns R);have g2:=h2;unfold Blk at g2;have hne:b1≠w8.heap.size:=Nat.ne_of_lt h1.lt;replace h1:=(h1.alloc (.cells (Ns ZO) 61)).other hne (Ns R);have BS:Below w.heap.size w ((w8.alloc (.cells (Ns ZO) 61)).setRow w8.heap.size (Ns R)):=below_setRow (bel.alloc bel.size _) bel.size _;go_wp2_with (first
  |(refine wpList_store_row rfl 61 _ _ rfl w8.heap.size _ rfl rfl 61 _ gz (by rw[sR];exact Tryz.infoP64) (by rw[sR,sZ']) (aN _) ?_)
  |(refine ld t61 rfl rfl w8.heap.size rfl g2 sR ?_))
 clear gz g2 h2 hN bel hne;generalize (w8.alloc (.cells (Ns ZO) 61)).setRow w8.heap.size (Ns R)=w9 at BS h1⊢;have bel:=BS;clear BS;refine gv H9 fun w10 k=> ?_
 replace bel:=bel.trans (k.mono bel.size);replace h1:=h1.keep k;clear k w9;have hA:=A2.out;have hA2:=A3.out;go_wp2_with fail;refine gv H10 fun w11 k=> ?_
 replace bel:=bel.trans (k.mono bel.size);replace h1:=h1.keep k;clear k w10 hA hA2;go_wp2_with fail;refine(H11.out _).mono ?_;rintro e w12 ⟨b2,rfl,hlb,h2,k⟩;replace bel:=bel.trans (k.mono bel.size);replace h1:=h1.keep k;clear k hlb w11;go_wp2_with fail;refine(H12.out _ _ h2).mono ?_;rintro e w13 ⟨b3,rfl,hlb,h3,k⟩;replace bel:=bel.trans (k.mono bel.size);replace h1:=h1.keep k;clear k hlb h2 w12;go_wp2_with fail;refine(H13.out _ _ _ h1 h3).mono ?_;rintro e w14 ⟨rfl,h4,k⟩;replace bel:=bel.trans (k.mono bel.size);clear k h1 h3;generalize w13.heap.size=b4 at h4⊢;go_wp2_with fail;refine(H14.out _ _ h4).mono ?_;rintro e w15 ⟨rfl,k⟩;replace bel:=bel.trans (k.mono bel.size);clear k h4 w14;have hA:=A4.out;go_wp2;go_ret;exact⟨rfl,bel⟩
theorem nZ(s d:ByteArray)(hd:d.size≤140737488351232)(w:World):
  Rw 100 #[.string s,.string d] w (.tuple #[.string (Rs.uI s d).1,.int .i64 (Rs.uI s d).2]):=by
 by_cases h:s.size=32∧d.size≤12000
 ·have e1:Rs.uI s d=(Rs.sign s d,0):=by unfold Rs.uI;rw[if_pos h]
  rw[e1];clear e1;have H1:Hid (Rv 151 #[.string s,.string d] (.string (Rs.sign s d))):=fun wx=>so s d h.1 (by omega) wx
  generalize Rs.sign s d=SG at H1⊢;have d1:((s.size:Int) !=32)=false:=by simp;omega
  have d2:(s.size:Int)=32:=by omega
  have d3: ¬(12000:Int)<(d.size:Int):=by omega
  go_enter Tryz.func100,Tryz.ntmps100;go_wp2_with fail;refine gv H1 fun w1 k1=> ?_
  go_wp2;go_ret2;exact⟨rfl,k1⟩
 ·have e1:Rs.uI s d=(⟨#[]⟩,1):=by unfold Rs.uI;rw[if_neg h]
  rw[e1];clear e1;by_cases h1:s.size=32
  ·have d1:((s.size:Int) !=32)=false:=by simp;omega
   have d2:(s.size:Int)=32:=by omega
   have d3:(12000:Int)<(d.size:Int):=by omega
   go_enter Tryz.func100,Tryz.ntmps100;go_wp2;go_ret2;exact⟨rfl,Below.refl _ _⟩
  ·have d1:((s.size:Int) !=32)=true:=by simp;omega
   have d2: ¬(s.size:Int)=32:=by omega
   go_enter Tryz.func100,Tryz.ntmps100;go_wp2;go_ret2;exact⟨rfl,Below.refl _ _⟩
def fg(cs:Array Value)(k:Nat):List Value→Array Value
 | []=>cs
 |v::r=>fg (cs.setIfInBounds k v) (k+1) r
theorem setRow_self{w:World}{g t:Nat}{cs:Array Value}(hb:Blk w g cs t):w.setRow g cs=w:=by
 have hlt:g<w.heap.size:=(Array.getElem?_eq_some_iff.1 hb).1;have hv:w.heap[g]= .cells cs t (0,0):=(Array.getElem?_eq_some_iff.1 hb).2;unfold World.setRow;cases w with
 |mk heap tape drawn os output=>
  congr 1
  apply Array.ext
  ·simp
  ·intro k h1 h2;simp only[Array.getElem_modify];split
   ·rename_i hk;subst hk;simp at hv;simp[hv]
   ·rfl
theorem eV{P:Program}(g t off:Nat): ∀(vs:List Value) (i:Nat) (cs:Array Value) (w:World),Blk w g cs t→off+i+vs.length≤cs.size→(∀v∈vs,v.oneCell'=true)→
  (storeCells ⟨g,off,none⟩ vs i).run P w= .ok () (w.setRow g (fg cs (off+i) vs))
 | [],i,cs,w,hb,_,_=>by
  rw[fg,setRow_self hb];rfl
 |v::rest,i,cs,w,hb,hl,h1=>by
  rw[List.length_cons]at hl;have hi:off+i<cs.size:=by omega
  have Cs:(⟨g,off,none⟩:Addr).add i=⟨g,off+i,none⟩:=by unfold Addr.add;split<;>simp_all
  have hcell:w.cell? ⟨g,off+i,none⟩=some cs[off+i]:=by rw[hb.cell];exact Array.getElem?_eq_getElem hi
  have hfro:=hb.frozen (off+i);have hst:(store ((⟨g,off,none⟩:Addr).add i) v).run P w= .ok () (w.setRow g (cs.setIfInBounds (off+i) v)):=by
   rw[Cs,run_store P w _ v _ (h1 v (by simp)),hcell];simp[hfro,setCell_eq_setRow w g (off+i) cs t (0,0) v hb]
  have ih:=eV g t off rest (i+1) (cs.setIfInBounds (off+i) v) (w.setRow g (cs.setIfInBounds (off+i) v)) (hb.row _) (by rw[Array.size_setIfInBounds];omega) (fun x hx=>h1 x (by simp[hx])) (P:=P);simp only[storeCells,Sem.run_bind,hst,Result.andThen_ok,ih,setRow_setRow];rw[fg,Nat.add_assoc]
theorem fa(c:List Value): ∀(b b':List Value),b.length=b'.length→ ∀a:List Value,fg (a++b++c).toArray a.length b'=(a++b'++c).toArray
 | [],[],_,a=>rfl
 |x::b,y::b',h,a=>by
  rw[fg,List.setIfInBounds_toArray];have e:(a++x::b++c).set a.length y=(a++ [y])++b++c:=by simp
  rw[e,show a.length+1=(a++ [y]).length by simp,fa c b b' (by simpa using h) (a++ [y])];simp
theorem iF(a b:List Int):(Ns (a++b)).toList=(Ns a).toList++(Ns b).toList:=by simp[Ns]
theorem dN(a:List Int):(Ns a).toList.length=a.length:=by simp[Ns]
theorem rC(X X' Y Z T:List Int)(h:X.length=X'.length):fg (Ns (Rp.qt X Y Z T)) (0+0) (Ns X').toList=Ns (Rp.qt X' Y Z T):=by
 have:=fa (Ns (Y++Z++T)).toList (Ns X).toList (Ns X').toList (by rw[dN,dN,h]) [];rw[List.nil_append,List.nil_append,←iF,←iF,Array.toArray_toList,Array.toArray_toList]at this;unfold Rp.qt;rw[List.append_assoc,List.append_assoc,List.append_assoc,List.append_assoc,←List.append_assoc Y];exact this
theorem rH(X Y Z T T':List Int)(hX:X.length=16)(hY:Y.length=16)(hZ:Z.length=16)(h:T.length=T'.length):fg (Ns (Rp.qt X Y Z T)) (48+0) (Ns T').toList=Ns (Rp.qt X Y Z T'):=by
 have:=fa [] (Ns T).toList (Ns T').toList (by rw[dN,dN,h]) (Ns (X++Y++Z)).toList;rw[List.append_nil,List.append_nil,←iF,←iF,Array.toArray_toList,Array.toArray_toList,dN,List.length_append,List.length_append,hX,hY,hZ]at this;exact this
theorem tk{a b:ByteArray}(h: ¬a=b):(a.toList==b.toList)=false:=by
 rw[beq_eq_false_iff_ne];intro e;rw[ByteArray.toList_eq,ByteArray.toList_eq]at e;exact h (ix e)
theorem jI: ∀(l:List UInt8) (i:Nat),i<l.length→Nb.um (Sc.num l) i=(l.getD i 0).toNat
 | [],i,h=>by simp at h
 |x::l,0,_=>by
  have:=x.toNat_lt;unfold Nb.um;rw[Sc.num];show _=x.toNat
  simp
 |x::l,i+1,h=>by
  have:=x.toNat_lt;have ih:=jI l i (by simpa using h);unfold Nb.um at ih⊢;rw[Sc.num,Nat.pow_succ,Nat.mul_comm (256^i) 256,←Nat.div_div_eq_div_mul,show (x.toNat+256*Sc.num l)/256=Sc.num l by omega];exact ih
theorem oK(s:ByteArray)(h:s.size=32):Sc.num s.data.toList<256^32:=by
 have:=Sc.yJ s.data.toList;rw[show s.data.toList.length=32 by rw[←h];simp]at this;rw[show (256:Nat)^32=2^(8*32) by decide];exact this
theorem rQ(N:Nat)(h:N<256^32):Nb.mix N 0 32=Nb.nb N:=by
 refine Nb.list_ext (by rw[Nb.mix_length,Nb.vW]) ?_;intro i hi;rw[Nb.mix_length]at hi;rw[Nb.Bn _ _ _ _ hi,Nb.zx _ _ hi];by_cases c:i<32
 ·rw[if_pos c]
 ·rw[if_neg c,show i=32 by omega];unfold Nb.um;rw[Nat.div_eq_of_lt h,Nat.zero_div]
theorem r7(s:ByteArray)(k:Nat)(hk:k<32):(s.extract 32 64).data.toList.getD k 0=s.data.toList.getD (32+k) 0:=by
 have e:(s.extract 32 64).data.toList=(s.data.toList.drop 32).take 32:=by
  rw[ByteArray.data_extract,Array.toList_extract,List.extract_eq_take_drop]
 rw[e];simp only[List.getD];rw[List.getElem?_take_of_lt hk,List.getElem?_drop]
theorem nW(i d g G1 G2 S1 S2 DG KS FB:ByteArray)(N:Nat)(NK:List Nat)(low ok:Bool)(X Y Z T O0 NX NT D TW B M1 M2 SU:List Int)(w:World)
  (hi:i.size=32) (hd:d.size≤12000) (hg:g.size=64) (hN:N<256^32) (hB1: ∀k,k<32→Nb.um N k=(g.data.toList.getD (32+k) 0).toNat)
  (hX1:X.length=16) (hY:Y.length=16) (hZ:Z.length=16) (hT:T.length=16) (hNX:NX.length=16) (hNT:NT.length=16) (hD:D.length=16) (hSU:SU.length=64)
  (x1:g.extract 0 32=G1) (x2:g.extract 32 64=G2) (A1:Hid (Op.stringOp .add G1 i=pure (.string S1))) (A2:Hid (Op.stringOp .add S1 d=pure (.string S2)))
  (HB:Hid (∀wx:World,Blk wx w.heap.size (Us (Nb.nb N)) 3→Rw 152 #[.slice (some ⟨w.heap.size,0,none⟩) 33 33] wx (.bool low)))
  (HM:Hid (∀wx:World,Calls Tryz.prog 153 #[.string DG] wx fun e w'=> ∃b:Nat,e= .returned (.slice (some ⟨b,0,none⟩) 33 33)∧wx.heap.size≤b∧Blk w' b (Us NK) 3∧Below wx.heap.size wx w'))
  (H8:Hid (∀(wx:World) (b:Nat),Blk wx b (Us NK) 3→Rw 154 #[.slice (some ⟨b,0,none⟩) 33 33] wx (.string KS)))
  (H1:Hid (Rv 86 #[.string i] (.tuple #[.agg (Ns (Rp.qt X Y Z T)),.bool ok])))
  (H2:Hid (Rv 81 #[.int .i64 0] (.agg (Ns O0))))
  (H3:Hid (Rv 140 #[.agg (Ns O0),.agg (Ns X)] (.agg (Ns NX))))
  (H4:Hid (Rv 140 #[.agg (Ns O0),.agg (Ns T)] (.agg (Ns NT))))
  (H5:Hid (Rv 36 #[.string S2] (.string DG)))
  (H6:Hid (Rv 79 #[] (.agg (Ns D))))
  (H7:Hid (Rv 39 #[] (.agg (Ns B))))
  (H9:Hid (Rv 37 #[.string G2,.agg (Ns B)] (.agg (Ns M1))))
  (J1:Hid (Rv 37 #[.string KS,.agg (Ns (Rp.qt NX Y Z NT))] (.agg (Ns M2))))
  (J2:Hid (Rv 80 #[.agg (Ns D),.agg (Ns D)] (.agg (Ns TW))))
  (J3:Hid (Rv 82 #[.agg (Ns M1),.agg (Ns M2),.agg (Ns TW)] (.agg (Ns SU))))
  (J4:Hid (Rv 40 #[.agg (Ns SU)] (.string FB))):
  Rw 102 #[.string i,.string d,.string g] w (.bool (low&&ok&&decide (FB=G1))):=by
 have hz:=bC;have hz2:=Rp.xz;have hm:=jJ w;have d1:((i.size:Int) !=32)=false:=by simp;omega
 have d2:(i.size:Int)=32:=by omega
 have d3: ¬(12000:Int)<(d.size:Int):=by omega
 have d4:((g.size:Int) !=64)=false:=by simp;omega
 have d5:(g.size:Int)=64:=by omega
 have h0:Blk (w.alloc (.cells (Us none33) 3)) w.heap.size (Us (Nb.nb 0)) 3:=by rw[fJ];exact Blk.new w _ _
 have BI:Below w.heap.size w (w.alloc (.cells (Us none33) 3)):=bR.alloc nR _;replace hB1:Hid (∀k,k<32→Nb.um N k=(g.data.toList.getD (32+k) 0).toNat):=hB1;have hmx:=rQ N hN;replace hmx:Hid (Nb.mix N 0 32=Nb.nb N):=hmx;clear hN;generalize B8:(low&&ok&&decide (FB=G1))=RES;replace B8:Hid ((low&&ok&&decide (FB=G1))=RES):=B8;have sX:=Nz hX1;have sT:=Nz hT;have sD:=Nz hD;have sNX:=Nz hNX;have sNT:=Nz hNT;have sSU:=Nz hSU;have sP0:(Ns (Rp.qt X Y Z T)).size=64:=by rw[aK,Rp.uy hX1 hY hZ hT]
 have sP2:(Ns (Rp.qt NX Y Z NT)).size=64:=by rw[aK,Rp.uy hNX hY hZ hNT]
 have sZ:=Rp.wR;generalize Rp.Z64=ZO at hz2 sZ;have sZ':=Nz sZ;go_enter Tryz.func102,Tryz.ntmps102;go_wp2;clear hm;generalize w.alloc (.cells (Us none33) 3)=w1 at h0 BI⊢;go_loopw [8] (fun q wr=> ∃k:Nat,k≤32∧q= .int .i64 k∧Blk wr w.heap.size (Us (Nb.mix N 0 k)) 3∧Below w.heap.size w wr) (fun q _=>32 - (intOf q).toNat)
 case atStart=>exact⟨0,by omega,rfl,by rw[Nb.y7];exact h0,BI⟩
 case round=>
  clear h0 BI;obtain⟨k,hk,rfl,h0,BI⟩:=hrel;by_cases hlt:k<32
  ·have k0:(k:Int)<32:=by omega
   have k1:(k:Int)<33:=by omega
   have hix:=bl g ((32:Int)+(k:Int)) (32+k) (by omega) (by omega) (by omega);have hby:byt g (32+k)=((Nb.um N k:Nat):Int):=by rw[hB1.out k hlt];rfl
   rw[hby]at hix;clear hby;have hlt8:=Nb.wS N k;have ems:Hid ((Nb.mix N 0 k).set k (Nb.um N k)=Nb.mix N 0 (k+1)):=Nb.y8 N 0 k (by omega);have hlm:=Nb.mix_length N 0 k;generalize Nb.mix N 0 k=L at h0 ems hlm;generalize Nb.um N k=y at hix hlt8 ems;have f1:=h0.frozen k;have g3:=aA h0 k (by omega);have R1:=cF h0 nR BI k y (y:Int) rfl;have wy:IntKind.i64.wrap (y:Int)=(y:Int):=by rw[IntKind.wrap_i64];omega
   go_wp2;go_roundw
   case rel=>
    refine⟨k+1,by omega,by go_num,?_,R1.2.2⟩;rw[←ems.out];exact R1.1
   case measure=>simp[intOf];omega
  ·obtain rfl:k=32:=by omega
   rw[hmx.out]at h0;rw[show ((32:Nat):Int)=32 from rfl];go_wp2_with fail;refine(HB.out _ h0).mono ?_;rintro e w2 ⟨rfl,k2⟩;replace BI:=BI.trans (k2.mono BI.size);clear k2 h0 HB wr;go_wp2_with fail;refine gv H1 fun w3 k3=> ?_
   replace BI:=BI.trans (k3.mono BI.size);clear k3 H1 w2;have hX:=WD.start (w:=w3);have hN:=hX.new (Ns ZO) 61;have gz:=hN.get 0 rfl;dsimp only at gz;unfold Blk at gz;replace hX:WD w3 (w3.heap.size) [(w3.heap.size,Ns (Rp.qt X Y Z T),61)] ((w3.alloc (.cells (Ns ZO) 61)).setRow w3.heap.size (Ns (Rp.qt X Y Z T))):=hN.over 0 rfl (Ns (Rp.qt X Y Z T));by_cases hlo:low=true∧ok=true
   ·obtain⟨rfl,rfl⟩:=hlo;rw[Bool.and_self,Bool.true_and]at B8;go_wp2_with (refine wpList_store_row rfl 61 _ _ rfl w3.heap.size _ rfl rfl 61 _ gz (by rw[sP0];exact Tryz.infoP64) (by rw[sP0,sZ']) (aN _) ?_);clear hN gz;generalize (w3.alloc (.cells (Ns ZO) 61)).setRow w3.heap.size (Ns (Rp.qt X Y Z T))=v1 at hX⊢;generalize hqe:w3.heap.size=q1 at hX⊢;replace hqe:Hid (w3.heap.size=q1):=hqe;refine ai (S:=WD w3 (q1) [(q1,Ns (Rp.qt X Y Z T),61)]) (ls:= [5]) (by kernel_rfl) ?_;have hX0:WD w3 (q1) [(q1,Ns (Rp.qt X Y Z T),61)] v1.drew:=hX.drew;clear hX;generalize World.drew v1=ad at hX0⊢;refine ac 1 55 hX0 ?_;refine aa 2 56 (v:= .agg (Ns X)) hX0 ?_ ?_
    ·exact fun wx BM=>Rp.uD 59 _ rfl (q1) 0 rfl (Ns X) _ (Rp.ptX (BM.get 0 rfl)) Tryz.underlying59 rfl (by rw[sX];exact Tryz.info16)
    try simp only[qQ]
    refine aj 0 fun K hK=> ?_
    go_simp;go_wp2_with (go_at_call 81;refine gv H2 fun ax0 k0=> ?_);have hX1:=hX0.keep k0;refine hK.out _ _ hX1 ?_;try simp only[qQ]
    clear hK K k0 hX0;refine aj 3 fun K hK=> ?_
    go_simp;go_wp2_with (go_at_call 140;refine gv H3 fun ax1 k0=> ?_);have hX2:=hX1.keep k0;refine hK.out _ _ hX2 ?_;try simp only[qQ]
    clear hK K k0 hX1;refine ac 4 58 hX2 ?_;try simp only[qQ]
    refine am 5 fun K hK=> ?_
    have hst:=eV (P:=Tryz.prog) q1 61 0 (Ns NX).toList 0 _ ax1 (hX2.get 0 rfl) (by rw[dN];rw[sP0,hNX];omega) (fun v hv=>(Array.all_eq_true_iff_forall_mem.1 (aN NX)) v (by simpa using hv));rw[rC X NX Y Z T (by rw[hX1,hNX])]at hst;go_simp;refine hK.out _ _ ?_;clear hK K hst;replace hX2:WD w3 (q1) [(q1,Ns (Rp.qt NX Y Z T),61)] (ax1.setRow q1 (Ns (Rp.qt NX Y Z T))):=hX2.over 0 rfl (Ns (Rp.qt NX Y Z T));generalize ax1.setRow q1 (Ns (Rp.qt NX Y Z T))=az at hX2⊢;refine ak ?_;have hX:=hX2;clear hX2;go_wp2_with fail;have sP1:(Ns (Rp.qt NX Y Z T)).size=64:=by rw[aK,Rp.uy hNX hY hZ hT]
    refine ai (S:=WD w3 (q1) [(q1,Ns (Rp.qt NX Y Z T),61)]) (ls:= [5]) (by kernel_rfl) ?_;have hX0:WD w3 (q1) [(q1,Ns (Rp.qt NX Y Z T),61)] az.drew:=hX.drew;clear hX;generalize World.drew az=bd at hX0⊢;refine ac 1 60 hX0 ?_;refine aa 2 61 (v:= .agg (Ns T)) hX0 ?_ ?_
    ·exact fun wx BM=>Rp.uD 59 _ rfl (q1) 48 rfl (Ns T) _ (Rp.ptT (BM.get 0 rfl) hNX hY hZ) Tryz.underlying59 rfl (by rw[sT];exact Tryz.info16)
    try simp only[qQ]
    refine aj 0 fun K hK=> ?_
    go_simp;go_wp2_with (go_at_call 81;refine gv H2 fun bx0 k0=> ?_);have hX1:=hX0.keep k0;refine hK.out _ _ hX1 ?_;try simp only[qQ]
    clear hK K k0 hX0;refine aj 3 fun K hK=> ?_
    go_simp;go_wp2_with (go_at_call 140;refine gv H4 fun bx1 k0=> ?_);have hX2:=hX1.keep k0;refine hK.out _ _ hX2 ?_;try simp only[qQ]
    clear hK K k0 hX1;refine ac 4 63 hX2 ?_;try simp only[qQ]
    refine am 5 fun K hK=> ?_
    have hst:=eV (P:=Tryz.prog) q1 61 48 (Ns NT).toList 0 _ bx1 (hX2.get 0 rfl) (by rw[dN];rw[sP1,hNT];omega) (fun v hv=>(Array.all_eq_true_iff_forall_mem.1 (aN NT)) v (by simpa using hv));rw[rH NX Y Z T NT hNX hY hZ (by rw[hT,hNT])]at hst;go_simp;refine hK.out _ _ ?_;clear hK K hst;replace hX2:WD w3 (q1) [(q1,Ns (Rp.qt NX Y Z NT),61)] (bx1.setRow q1 (Ns (Rp.qt NX Y Z NT))):=hX2.over 0 rfl (Ns (Rp.qt NX Y Z NT));generalize bx1.setRow q1 (Ns (Rp.qt NX Y Z NT))=bz at hX2⊢;refine ak ?_;have hX:=hX2;clear hX2;have hx1:=x1;have hA:=A1.out;have hA2:=A2.out;go_wp2_with fail;refine gv H5 fun x1 k1=> ?_
    replace hX:=hX.keep k1;clear k1;clear hx1 hA hA2;go_wp2_with fail;refine(HM.out _).mono ?_;rintro e w5 ⟨bk,rfl,hbk,hKb,k5⟩;have hne5: ∀x∈ [(q1,Ns (Rp.qt NX Y Z NT),61)],x.1≠bk:=fun x hx=>by rw[List.mem_singleton.1 hx];have:=(hX.get 0 rfl).lt;dsimp only at this⊢;omega
    have hle5:q1≤bk:=by have:=(hX.get 0 rfl).lt;dsimp only at this;omega
    replace hX:=hX.keep k5;clear k5;replace hX:=hX.push hKb hle5 hne5;clear hKb hne5 hle5 hbk;have H8b:Hid (∀wx:World,Blk wx bk (Us NK) 3→Rw 154 #[.slice (some ⟨bk,0,none⟩) 33 33] wx (.string KS)):=fun wx h=>H8.out wx bk h
    clear H8;go_wp2_with fail;refine gv H6 fun x3 k3=> ?_
    replace hX:=hX.keep k3;clear k3;have hN:=hX.new (Ns Fd.zN) 59;have g4:=hN.gt 0 rfl;replace hX:WD w3 (q1) [(x3.heap.size,Ns D,59),(bk,Us NK,3),(q1,Ns (Rp.qt NX Y Z NT),61)] ((x3.alloc (.cells (Ns Fd.zN) 59)).setRow x3.heap.size (Ns D)):=hN.over 0 rfl (Ns D);go_wp2_with (first
     |(refine stN rfl rfl x3.heap.size rfl rfl g4 sD rfl ?_))
    clear hN g4;generalize (x3.alloc (.cells (Ns Fd.zN) 59)).setRow x3.heap.size (Ns D)=v5 at hX⊢;generalize x3.heap.size=q2 at hX⊢;refine ai (S:=WD w3 (q1) [(q2,Ns D,59),(bk,Us NK,3),(q1,Ns (Rp.qt NX Y Z NT),61)]) (ls:= [13]) (by kernel_rfl) ?_;have hX0:WD w3 (q1) [(q2,Ns D,59),(bk,Us NK,3),(q1,Ns (Rp.qt NX Y Z NT),61)] v5.drew:=hX.drew;clear hX;generalize World.drew v5=cd at hX0⊢;refine ac 0 73 hX0 ?_;refine aa 1 74 (v:= .string G2) hX0 ?_ ?_
    ·exact fun wx _=>(by have hx:=x2;go_simp;try (with_reducible rfl))
    refine ac 4 77 hX0 ?_;simp only[qQ];refine af 6 79 t61 (fun _ h=>h.get 2 rfl) sP2 hX0 ?_;refine af 8 81 t59 (fun _ h=>h.get 0 rfl) sD hX0 ?_;refine af 9 82 t59 (fun _ h=>h.get 0 rfl) sD hX0 ?_;try simp only[qQ]
    change al _ _ _ _ _ _ 8 #[true,true,false,false,true,false,true,false,true,true,false,false,false,false] _ _;refine aq (R:=fun d u w'=>(d 2=true→u 75= .agg (Ns B))∧(d 3=true→u 76= .agg (Ns M1))∧(d 5=true→u 78= .string KS)∧(d 7=true→u 80= .agg (Ns M2))∧(d 10=true→u 83= .agg (Ns TW))∧(d 11=true→u 84= .agg (Ns SU))∧(d 12=true→Fresh w3 (q1) [(q2,Ns D,59),(bk,Us NK,3),(q1,Ns (Rp.qt NX Y Z NT),61)] (Ns ZO) 61 (u 14) w')∧WD w3 (q1) [(q2,Ns D,59),(bk,Us NK,3),(q1,Ns (Rp.qt NX Y Z NT),61)] w') [75,76,78,80,83,84,14] [2,3,5,7,10,11,12] #[true,true,true,true,true,true,true,true,true,true,true,true,true,false] (by kernel_rfl) (by kernel_rfl) (by kernel_rfl) ⟨fun h=>Bool.noConfusion h,fun h=>Bool.noConfusion h,fun h=>Bool.noConfusion h,fun h=>Bool.noConfusion h,fun h=>Bool.noConfusion h,fun h=>Bool.noConfusion h,fun h=>Bool.noConfusion h,hX0⟩ ?stepsc ?finc;case stepsc=>
     refine StepsU.cons rfl ?sc2 (StepsU.cons rfl ?sc3 (StepsU.cons rfl ?sc5 (StepsU.cons rfl ?sc7 (StepsU.cons rfl ?sc10 (StepsU.cons rfl ?sc11 (StepsU.cons rfl ?sc12 StepsU.nil))))));case sc2=>
      rintro d u wx ⟨h2,h3,h5,h7,h10,h11,h12,hX⟩ hd K hK;simp only[ae,qF,qQ];go_simp;go_wp2_with (go_at_call 39;refine gv H7 fun x0 k0=> ?_);refine hK.out (upV u 75 (.agg (Ns B))) _ (hX.keep k0) ⟨fun _=>rfl,fun h=>h3 h,fun h=>h5 h,fun h=>h7 h,fun h=>h10 h,fun h=>h11 h,fun h=>(h12 h).keep k0,hX.keep k0⟩ _ ?_;simp only[ae,qF,qQ,upV,reduceIte,Nat.reduceEqDiff]
     case sc3=>
      rintro d u wx ⟨h2,h3,h5,h7,h10,h11,h12,hX⟩ hd K hK;have e2:=h2 (hd 2 (by kernel_rfl));simp only[ae,qF,qQ,e2];go_simp;go_wp2_with (go_at_call 37;refine gv H9 fun x0 k0=> ?_);refine hK.out (upV u 76 (.agg (Ns M1))) _ (hX.keep k0) ⟨fun h=>h2 h,fun _=>rfl,fun h=>h5 h,fun h=>h7 h,fun h=>h10 h,fun h=>h11 h,fun h=>(h12 h).keep k0,hX.keep k0⟩ _ ?_;simp only[ae,qF,qQ,upV,reduceIte,Nat.reduceEqDiff,e2]
     case sc5=>
      rintro d u wx ⟨h2,h3,h5,h7,h10,h11,h12,hX⟩ hd K hK;simp only[ae,qF,qQ];go_simp;go_wp2_with (go_at_call 154;refine(H8b.out _ (hX.get 1 rfl)).mono ?_;rintro e x0 ⟨rfl,k0⟩);refine hK.out (upV u 78 (.string KS)) _ (hX.keep k0) ⟨fun h=>h2 h,fun h=>h3 h,fun _=>rfl,fun h=>h7 h,fun h=>h10 h,fun h=>h11 h,fun h=>(h12 h).keep k0,hX.keep k0⟩ _ ?_;simp only[ae,qF,qQ,upV,reduceIte,Nat.reduceEqDiff]
     case sc7=>
      rintro d u wx ⟨h2,h3,h5,h7,h10,h11,h12,hX⟩ hd K hK;have e5:=h5 (hd 5 (by kernel_rfl));simp only[ae,qF,qQ,e5];go_simp;go_wp2_with (go_at_call 37;refine gv J1 fun x0 k0=> ?_);refine hK.out (upV u 80 (.agg (Ns M2))) _ (hX.keep k0) ⟨fun h=>h2 h,fun h=>h3 h,fun h=>h5 h,fun _=>rfl,fun h=>h10 h,fun h=>h11 h,fun h=>(h12 h).keep k0,hX.keep k0⟩ _ ?_;simp only[ae,qF,qQ,upV,reduceIte,Nat.reduceEqDiff,e5]
     case sc10=>
      rintro d u wx ⟨h2,h3,h5,h7,h10,h11,h12,hX⟩ hd K hK;simp only[ae,qF,qQ];go_simp;go_wp2_with (go_at_call 80;refine gv J2 fun x0 k0=> ?_);refine hK.out (upV u 83 (.agg (Ns TW))) _ (hX.keep k0) ⟨fun h=>h2 h,fun h=>h3 h,fun h=>h5 h,fun h=>h7 h,fun _=>rfl,fun h=>h11 h,fun h=>(h12 h).keep k0,hX.keep k0⟩ _ ?_;simp only[ae,qF,qQ,upV,reduceIte,Nat.reduceEqDiff]
     case sc11=>
      rintro d u wx ⟨h2,h3,h5,h7,h10,h11,h12,hX⟩ hd K hK;have e3:=h3 (hd 3 (by kernel_rfl));have e7:=h7 (hd 7 (by kernel_rfl));have e10:=h10 (hd 10 (by kernel_rfl));simp only[ae,qF,qQ,e3,e7,e10];go_simp;go_wp2_with (go_at_call 82;refine gv J3 fun x0 k0=> ?_);refine hK.out (upV u 84 (.agg (Ns SU))) _ (hX.keep k0) ⟨fun h=>h2 h,fun h=>h3 h,fun h=>h5 h,fun h=>h7 h,fun h=>h10 h,fun _=>rfl,fun h=>(h12 h).keep k0,hX.keep k0⟩ _ ?_;simp only[ae,qF,qQ,upV,reduceIte,Nat.reduceEqDiff,e3,e7,e10]
     case sc12=>
      rintro d u wx ⟨h2,h3,h5,h7,h10,h11,h12,hX⟩ hd K hK;simp only[ae,qF,qQ];go_simp;refine hK.out (upV u 14 (.pointer (some ⟨wx.heap.size,0,none⟩))) _ (hX.alloc _) ⟨fun h=>h2 h,fun h=>h3 h,fun h=>h5 h,fun h=>h7 h,fun h=>h10 h,fun h=>h11 h,fun _=>bg hX _ _,hX.alloc _⟩ _ ?_;simp only[ae,qF,qQ,upV,reduceIte,Nat.reduceEqDiff]
    case finc=>
     rintro n' d u cx ⟨h2,h3,h5,h7,h10,h11,h12,hX⟩ hd;have e75:=h2 (hd 2 rfl);have e76:=h3 (hd 3 rfl);have e78:=h5 (hd 5 rfl);have e80:=h7 (hd 7 rfl);have e83:=h10 (hd 10 rfl);have e84:=h11 (hd 11 rfl);obtain⟨q3,e14,bq3,lq3,mq3⟩:=h12 (hd 12 rfl);simp only[ae,qF,qQ,e75,e76,e78,e80,e83,e84,e14];clear hd h2 h3 h5 h7 h10 h11 h12 e75 e76 e78 e80 e83 e84 e14;change al _ _ _ _ _ _ (n'+1) _ _ _;replace hX:=hX.push bq3 mq3 (fun x hx=>Nat.ne_of_lt (lq3 x hx));clear bq3 lq3 mq3;refine am 13 fun K hK=> ?_
     have hst:=aL (l:=SU) (hX.get 0 rfl) (by rw[sZ',hSU]);go_simp;refine hK.out _ _ ?_;clear hK K hst;replace hX:WD w3 (q1) [(q3,Ns SU,61),(q2,Ns D,59),(bk,Us NK,3),(q1,Ns (Rp.qt NX Y Z NT),61)] (cx.setRow (q3) (Ns SU)):=hX.over 0 rfl (Ns SU);generalize cx.setRow (q3) (Ns SU)=cy0 at hX⊢;refine ak ?_;go_wp2_with fail;refine ai (S:=WD w3 (q1) [(q3,Ns SU,61),(q2,Ns D,59),(bk,Us NK,3),(q1,Ns (Rp.qt NX Y Z NT),61)]) (ls:= []) (by kernel_rfl) ?_;have hX0:WD w3 (q1) [(q3,Ns SU,61),(q2,Ns D,59),(bk,Us NK,3),(q1,Ns (Rp.qt NX Y Z NT),61)] cy0.drew:=hX.drew;clear hX;generalize World.drew cy0=ed at hX0⊢;refine af 0 85 t61 (fun _ h=>h.get 0 rfl) sSU hX0 ?_;refine ac 2 87 hX0 ?_;refine aa 3 88 (v:= .string G1) hX0 ?_ ?_
     ·exact fun wx _=>(by have hx:=x1;go_simp;try (with_reducible rfl))
     try simp only[qQ]
     refine aj 1 fun K hK=> ?_
     go_simp;go_wp2_with (go_at_call 40;refine gv J4 fun ex0 k0=> ?_);have hX1:=hX0.keep k0;refine hK.out _ _ hX1 ?_;try simp only[qQ]
     clear hK K k0 hX0;have Cf:Hid (Below w.heap.size w ex0):=by
      have h1:=hX1.below;rw[←hqe.out]at h1;exact BI.trans (h1.mono BI.size)
     by_cases hc:FB=G1
     ·rw[decide_eq_true hc]at B8;subst hc;refine ac 4 89 (v:= .bool true) hX1 ?_;try simp only[qQ]
      refine ac 5 6 (v:= .bool true) hX1 ?_;try simp only[qQ]
      refine ak ?_;go_wp2;go_ret;exact⟨by rw[←B8.out];rfl,Cf.out⟩
     ·rw[decide_eq_false hc]at B8;have hcm:=tk hc;refine ac 4 89 (v:= .bool false) hX1 ?_;try simp only[qQ]
      refine ac 5 6 (v:= .bool false) hX1 ?_;try simp only[qQ]
      refine ak ?_;go_wp2;go_ret;exact⟨by rw[←B8.out];rfl,Cf.out⟩
   ·have hr:RES=false:=by
     rw[←B8.out];cases low<;>cases ok<;>simp_all
    subst hr;have hb2:=hX.below;have Cf:Hid (Below w.heap.size w ((w3.alloc (.cells (Ns ZO) 61)).setRow w3.heap.size (Ns (Rp.qt X Y Z T)))):=BI.trans (hb2.mono BI.size);clear hb2 hX;cases low with
    |false=>
     go_wp2_with (refine wpList_store_row rfl 61 _ _ rfl w3.heap.size _ rfl rfl 61 _ gz (by rw[sP0];exact Tryz.infoP64) (by rw[sP0,sZ']) (aN _) ?_);go_ret;exact⟨rfl,Cf.out⟩
    |true=>
     cases ok with
     |true=>exact absurd ⟨rfl,rfl⟩ hlo
     |false=>
      go_wp2_with (refine wpList_store_row rfl 61 _ _ rfl w3.heap.size _ rfl rfl 61 _ gz (by rw[sP0];exact Tryz.infoP64) (by rw[sP0,sZ']) (aN _) ?_);go_ret;exact⟨rfl,Cf.out⟩
namespace Rs
def neg(p:Rp.Pn):Rp.Pn:=⟨Fd.minus (Fd.small 0) p.x,p.y,p.z,Fd.minus (Fd.small 0) p.t⟩
def want(p:Rp.Pn)(i d g:ByteArray):ByteArray:=⟨(Rp.bytes (Rp.sum (Rp.tU (g.extract 32 64) Rp.base) (Rp.tU (b32 (tie (g.extract 0 32) i d)) (neg p)) Rp.uP)).toArray⟩
def right(i d g:ByteArray):Bool:=decide (yW (g.extract 32 64)<Sc.Q)&&(Rp.ofB i).isSome&&decide (want (Rp.get (Rp.ofB i)) i d g=g.extract 0 32)
def uO(i d g:ByteArray):Bool:=if i.size=32∧d.size≤12000∧g.size=64 then right i d g else false
theorem neg_fine{p:Rp.Pn}(h:Rp.Fine p):Rp.Fine (neg p):=Rp.Fine.of (Fd.tO (Fd.small 0) p.x Rp.wF h.1) h.2.1 h.2.2.1 (Fd.tO (Fd.small 0) p.t Rp.wF h.2.2.2)
theorem neg_x(p:Rp.Pn):(neg p).x=Fd.minus (Fd.small 0) p.x:=by unfold neg;dsimp only
theorem neg_t(p:Rp.Pn):(neg p).t=Fd.minus (Fd.small 0) p.t:=by unfold neg;dsimp only
theorem neg_y(p:Rp.Pn):(neg p).y=p.y:=by unfold neg;dsimp only
theorem neg_z(p:Rp.Pn):(neg p).z=p.z:=by unfold neg;dsimp only
theorem row_qt(p:Rp.Pn):Rp.row p=Rp.qt p.x p.y p.z p.t:=rfl
theorem neg_row(p:Rp.Pn):Rp.row (neg p)=Rp.qt (neg p).x p.y p.z (neg p).t:=by rw[row_qt,neg_y,neg_z]
end Rs
theorem pk(i d g:ByteArray)(w:World)(hi:i.size=32)(hd:d.size≤12000)(hg:g.size=64):
  Rw 102 #[.string i,.string d,.string g] w (.bool (Rs.right i d g)):=by
 have h1:(g.extract 0 32).size=32:=by rw[ByteArray.size_extract,hg];rfl
 have h2:(g.extract 32 64).size=32:=by rw[ByteArray.size_extract,hg];rfl
 have hf:=Rp.get_fine i;have hn:=Rs.neg_fine hf;have m1:=Rp.vQ (g.extract 32 64) Rp.base Rp.base_fine;have m2:=Rp.vQ (Rs.b32 (Rs.tie (g.extract 0 32) i d)) _ hn;have m3:=Rp.xU m1 m2 Rp.wm;have hl2:(g.extract 32 64).data.toList.length=32:=by
  have: ∀s:ByteArray,s.data.toList.length=s.size:=fun s=>by simp
  rw[this,h2]
 have s1:(g.extract 0 32++i).size=64:=by rw[ByteArray.size_append,h1,hi]
 have c1:(g.extract 0 32++i++d).size≤100000:=by rw[ByteArray.size_append,s1];omega
 have A1:Hid (Op.stringOp .add (g.extract 0 32) i=pure (.string (g.extract 0 32++i))):=aH _ _ (by rw[h1,hi];omega);have A2:Hid (Op.stringOp .add (g.extract 0 32++i) d=pure (.string (g.extract 0 32++i++d))):=aH _ _ (by rw[s1];omega);have hN:Rs.yW (g.extract 32 64)<256^32:=oK _ h2;have hN':Rs.yW (g.extract 32 64)<256^33:=Nat.lt_trans hN (by decide);have hB1: ∀k,k<32→Nb.um (Rs.yW (g.extract 32 64)) k=(g.data.toList.getD (32+k) 0).toNat:=fun k hk=>by unfold Rs.yW;rw[jI _ _ (by rw[hl2];exact hk),r7 _ _ hk]
 have HM:Hid (∀wx:World,Calls Tryz.prog 153 #[.string (Rs.D (g.extract 0 32++i++d))] wx fun e w'=> ∃b:Nat,e= .returned (.slice (some ⟨b,0,none⟩) 33 33)∧wx.heap.size≤b∧Blk w' b (Us (Nb.nb (Rs.tie (g.extract 0 32) i d))) 3∧Below wx.heap.size wx w'):=fun wx=>gP _ wx (by rw[show (Rs.D (g.extract 0 32++i++d)).size=64 from Sha.uh Sha.K _];omega)
 have H5:Hid (Rv 36 #[.string (g.extract 0 32++i++d)] (.string (Rs.D (g.extract 0 32++i++d)))):=fun wx=>aT _ wx (by omega)
 have H8:Hid (∀(wx:World) (b:Nat),Blk wx b (Us (Nb.nb (Rs.tie (g.extract 0 32) i d))) 3→Rw 154 #[.slice (some ⟨b,0,none⟩) 33 33] wx (.string (Rs.b32 (Rs.tie (g.extract 0 32) i d)))):=fun wx b h=>kf _ b 33 wx h
 have hks:=Rs.xT (Rs.tie (g.extract 0 32) i d);have H1:Hid (Rv 86 #[.string i] (.tuple #[.agg (Ns (Rp.row (Rp.get (Rp.ofB i)))),.bool (Rp.ofB i).isSome])):=fun wx=>jd i hi wx
 have J4:Hid (Rv 40 #[.agg (Ns (Rp.row (Rp.sum (Rp.tU (g.extract 32 64) Rp.base) (Rp.tU (Rs.b32 (Rs.tie (g.extract 0 32) i d)) (Rs.neg (Rp.get (Rp.ofB i)))) Rp.uP)))] (.string (Rs.want (Rp.get (Rp.ofB i)) i d g))):=fun wx=>dM _ m3 wx
 have J3:Hid (Rv 82 #[.agg (Ns (Rp.row (Rp.tU (g.extract 32 64) Rp.base))),.agg (Ns (Rp.row (Rp.tU (Rs.b32 (Rs.tie (g.extract 0 32) i d)) (Rs.neg (Rp.get (Rp.ofB i)))))),.agg (Ns Rp.uP)] (.agg (Ns (Rp.row (Rp.sum (Rp.tU (g.extract 32 64) Rp.base) (Rp.tU (Rs.b32 (Rs.tie (g.extract 0 32) i d)) (Rs.neg (Rp.get (Rp.ofB i)))) Rp.uP))))):=fun wx=>mI _ _ _ m1 m2 Rp.wm wx
 have H9:Hid (Rv 37 #[.string (g.extract 32 64),.agg (Ns (Rp.row Rp.base))] (.agg (Ns (Rp.row (Rp.tU (g.extract 32 64) Rp.base))))):=fun wx=>dC _ _ h2 Rp.base_fine wx
 have J1:Hid (Rv 37 #[.string (Rs.b32 (Rs.tie (g.extract 0 32) i d)),.agg (Ns (Rp.row (Rs.neg (Rp.get (Rp.ofB i)))))] (.agg (Ns (Rp.row (Rp.tU (Rs.b32 (Rs.tie (g.extract 0 32) i d)) (Rs.neg (Rp.get (Rp.ofB i)))))))):=fun wx=>dC _ _ hks hn wx
 have H3:Hid (Rv 140 #[.agg (Ns (Fd.small 0)),.agg (Ns (Rp.get (Rp.ofB i)).x)] (.agg (Ns (Fd.minus (Fd.small 0) (Rp.get (Rp.ofB i)).x)))):=fun wx=>aR _ _ Rp.wF hf.1 wx
 rw[←Rs.neg_x]at H3;have H4:Hid (Rv 140 #[.agg (Ns (Fd.small 0)),.agg (Ns (Rp.get (Rp.ofB i)).t)] (.agg (Ns (Fd.minus (Fd.small 0) (Rp.get (Rp.ofB i)).t)))):=fun wx=>aR _ _ Rp.wF hf.2.2.2 wx
 rw[←Rs.neg_t]at H4;have HB:Hid (∀wx:World,Blk wx w.heap.size (Us (Nb.nb (Rs.yW (g.extract 32 64)))) 3→Rw 152 #[.slice (some ⟨w.heap.size,0,none⟩) 33 33] wx (.bool (decide (Rs.yW (g.extract 32 64)<Sc.Q)))):=fun wx h=>lE _ _ 33 wx hN' h
 have H2:Hid (Rv 81 #[.int .i64 0] (.agg (Ns (Fd.small 0)))):=fun wx=>bj 0 wx
 have H6:Hid (Rv 79 #[] (.agg (Ns Rp.factor))):=fun wx=>gQ wx
 have H7:Hid (Rv 39 #[] (.agg (Ns (Rp.row Rp.base)))):=fun wx=>ka wx
 have J2:Hid (Rv 80 #[.agg (Ns Rp.factor),.agg (Ns Rp.factor)] (.agg (Ns Rp.uP))):=fun wx=>bE _ _ Rp.ur Rp.ur wx
 have hD:=Rp.ur.1;have hS:=m3.row;have hRR:Rs.right i d g=(decide (Rs.yW (g.extract 32 64)<Sc.Q)&&(Rp.ofB i).isSome&&decide (Rs.want (Rp.get (Rp.ofB i)) i d g=g.extract 0 32)):=rfl;rw[hRR];clear hRR m1 m2 m3;rw[Rs.neg_row]at J1;rw[Rs.row_qt]at H1;generalize Rp.row (Rp.sum (Rp.tU (g.extract 32 64) Rp.base) (Rp.tU (Rs.b32 (Rs.tie (g.extract 0 32) i d)) (Rs.neg (Rp.get (Rp.ofB i)))) Rp.uP)=SU at J3 J4 hS;generalize Rp.row (Rp.tU (g.extract 32 64) Rp.base)=M1 at H9 J3;generalize Rp.row (Rp.tU (Rs.b32 (Rs.tie (g.extract 0 32) i d)) (Rs.neg (Rp.get (Rp.ofB i))))=M2 at J1 J3;generalize Rs.want (Rp.get (Rp.ofB i)) i d g=WW at J4⊢;generalize Rs.neg (Rp.get (Rp.ofB i))=NP at J1 H3 H4 hn;generalize Rp.get (Rp.ofB i)=P at J1 H1 H3 H4 hf;generalize (Rp.ofB i).isSome=OK at H1⊢;generalize decide (Rs.yW (g.extract 32 64)<Sc.Q)=LO at HB⊢;generalize Rs.yW (g.extract 32 64)=N at hN hN' hB1 HB;generalize Rp.row Rp.base=BA at H7 H9;generalize Rp.uP=TW at J2 J3;generalize Rp.factor=FA at H6 J2 hD;generalize Fd.small 0=O0 at H2 H3 H4;generalize Rs.b32 (Rs.tie (g.extract 0 32) i d)=KS at H8 J1 hks;generalize Nb.nb (Rs.tie (g.extract 0 32) i d)=NK at HM H8;generalize Rs.D (g.extract 0 32++i++d)=DG at HM H5;exact nW i d g (g.extract 0 32) (g.extract 32 64) (g.extract 0 32++i) (g.extract 0 32++i++d) DG KS WW N NK LO OK P.x P.y P.z P.t O0 NP.x NP.t FA TW BA M1 M2 SU w
  hi hd hg hN hB1 hf.1.1 hf.2.1.1 hf.2.2.1.1 hf.2.2.2.1 hn.1.1 hn.2.2.2.1 hD hS rfl rfl A1 A2 HB HM H8 H1 H2 H3 H4 H5 H6 H7 H9 J1 J2 J3 J4
theorem kL(i d g:ByteArray)(w:World):
  Rw 102 #[.string i,.string d,.string g] w (.bool (Rs.uO i d g)):=by
 by_cases h:i.size=32∧d.size≤12000∧g.size=64
 ·have e1:Rs.uO i d g=Rs.right i d g:=by unfold Rs.uO;rw[if_pos h]
  rw[e1];exact pk i d g w h.1 h.2.1 h.2.2
 ·have e1:Rs.uO i d g=false:=by unfold Rs.uO;rw[if_neg h]
  rw[e1];clear e1;by_cases h1:i.size=32
  ·have d1:((i.size:Int) !=32)=false:=by simp;omega
   have d2:(i.size:Int)=32:=by omega
   by_cases h2:d.size≤12000
   ·have d3: ¬(12000:Int)<(d.size:Int):=by omega
    have d4:((g.size:Int) !=64)=true:=by simp;omega
    have d5: ¬(g.size:Int)=64:=by omega
    go_enter Tryz.func102,Tryz.ntmps102;go_wp2;go_ret;exact⟨rfl,Below.refl _ _⟩
   ·have d3:(12000:Int)<(d.size:Int):=by omega
    go_enter Tryz.func102,Tryz.ntmps102;go_wp2;go_ret;exact⟨rfl,Below.refl _ _⟩
  ·have d1:((i.size:Int) !=32)=true:=by simp;omega
   have d2: ¬(i.size:Int)=32:=by omega
   go_enter Tryz.func102,Tryz.ntmps102;go_wp2;go_ret;exact⟨rfl,Below.refl _ _⟩
end Go.Proofs.YtclpbaokadfhhaaGreatDoor
