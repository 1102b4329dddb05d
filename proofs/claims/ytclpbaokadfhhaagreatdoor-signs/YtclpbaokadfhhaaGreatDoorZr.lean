import Derived.Test.YtclpbaokadfhhaaGreatDoorZq
import Derived.Test.YtclpbaokadfhhaaGreatDoorYj
set_option maxRecDepth 100000
set_option maxHeartbeats 8000000
namespace Go.Proofs.YtclpbaokadfhhaaGreatDoor
open Go.RowKit
theorem iE(x:BitVec 32)(n:Nat)(w:World)(h0:0<n)(hn:n<32):
  Rw 260 #[.int .u32 (V x),.int .i64 n] w (.int .u32 (V (Cc.vK x n))):=by
 have e1:IntKind.i64.wrap (32 - (n:Int))=((32 - n:Nat):Int):=by rw[IntKind.wrap_i64];omega
 go_enter Tryz.func260,Tryz.ntmps260;go_wp2_with fail;go_region
 all_goals
  go_wp2;go_ret;refine⟨?_,bR.drew⟩;rw[j3,mE,o8];rfl
theorem qM(f:Nat→UInt8):bits BinOp.or IntKind.u32 (bits BinOp.or IntKind.u32 (bits BinOp.or IntKind.u32 (((f 0).toNat:Int)%4294967296) (((f 1).toNat:Int)%4294967296*256%4294967296)) (((f 2).toNat:Int)%4294967296*65536%4294967296)) (((f 3).toNat:Int)%4294967296*16777216%4294967296)=V (Cc.wd f 4):=by
 have h0:=(f 0).toNat_lt;have e0:((f 0).toNat:Int)%4294967296=V (Cc.wd f 1):=by
  rw[show Cc.wd f 1=BitVec.ofNat 32 (f 0).toNat by simp[Cc.wd],←mF _ (by omega)];omega
 have e1:=eL (Cc.wd f 1) (f 1) 1;have e2:=eL (Cc.wd f 2) (f 2) 2;have e3:=eL (Cc.wd f 3) (f 3) 3;rw[show (2:Int)^(8*1)=256 by decide]at e1;rw[show (2:Int)^(8*2)=65536 by decide]at e2;rw[show (2:Int)^(8*3)=16777216 by decide]at e3;rw[e0,e1];rw[show Cc.wd f 1|||BitVec.ofNat 32 (f 1).toNat<<<(8*1)=Cc.wd f 2 from rfl,e2];rw[show Cc.wd f 2|||BitVec.ofNat 32 (f 2).toNat<<<(8*2)=Cc.wd f 3 from rfl,e3];rfl
theorem sq(s:ByteArray)(f:Nat→UInt8)(w:World)(hs:s.size=4)(hf: ∀i,i<4→s.data.toList.getD i 0=f i):
  Rw 236 #[.string s] w (.int .u32 (V (Cc.wd f 4))):=by
 have x0:=bl s 0 0 (by omega) (by rfl) (by omega);have x1:=bl s 1 1 (by omega) (by rfl) (by omega);have x2:=bl s 2 2 (by omega) (by rfl) (by omega);have x3:=bl s 3 3 (by omega) (by rfl) (by omega);unfold byt at x0 x1 x2 x3;rw[hf 0 (by omega)]at x0;rw[hf 1 (by omega)]at x1;rw[hf 2 (by omega)]at x2;rw[hf 3 (by omega)]at x3;go_enter Tryz.func236,Tryz.ntmps236;go_wp2_with fail;go_region
 all_goals
  go_wp2;go_ret;refine⟨?_,bR.drew⟩;rw[qM];rfl
theorem bp{w:World}{p t:Nat}{l:List (BitVec 32)}(hb:Blk w p (Vs l) t)(i:Nat)(h:i<l.length):w.cell? ⟨p,i,none⟩=some (.int .u32 (V (l.getD i 0))):=by
 have:=hb.cell i;rw[cA _ _ h]at this;exact this
def bn(l:List (BitVec 32))(a b:Nat):List (BitVec 32):=l.set a (l.getD a 0+l.getD b 0)
def bm(l:List (BitVec 32))(d a n:Nat):List (BitVec 32):=l.set d (Cc.vK (l.getD d 0^^^l.getD a 0) n)
theorem de(l:List (BitVec 32))(a b:Nat):(bn l a b).length=l.length:=by simp[bn]
theorem dc(l:List (BitVec 32))(d a n:Nat):(bm l d a n).length=l.length:=by simp[bm]
theorem jl(l:List (BitVec 32))(g b t n:Nat)(hg:g<l.length)(h:g≠t):bm (bn l g b) t g n=Cc.mix l g b t n:=by
 unfold bm bn;rw[cL _ _ _ _ _ h,dh _ _ _ _ hg];rfl
theorem te(l:List (BitVec 32))(a b c d:Nat)(hl:l.length=16)(ha:a<16)(hc:c<16)(had:a≠d)(hcb:c≠b):
  bm (bn (bm (bn (bm (bn (bm (bn l a b) d a 16) c d) b c 12) a b) d a 8) c d) b c 7=Cc.tP l a b c d:=by
 unfold Cc.tP;rw[jl l a b d 16 (by omega) had,jl _ c d b 12 (by rw[Cc.mix_length];omega) hcb,jl _ a b d 8 (by rw[Cc.mix_length,Cc.mix_length];omega) had,jl _ c d b 7 (by rw[Cc.mix_length,Cc.mix_length,Cc.mix_length];omega) hcb]
theorem kP(w:World):Sem.run Tryz.prog (zeroValue 203) w= .ok (.agg (Vs none16)) w:=by kernel_rfl
def QS(w:World)(L:List (BitVec 32))(wx:World):Prop:=Blk wx w.heap.size (Vs L) 203∧Blk wx (w.heap.size+1) (Vs none16) 203∧Below w.heap.size w wx
theorem QS.drew{w wx:World}{L:List (BitVec 32)}(h:QS w L wx):QS w L wx.drew:=⟨h.1.drew,h.2.1.drew,h.2.2.drew⟩
theorem QS.keep{w wx wy:World}{L:List (BitVec 32)}(h:QS w L wx)(k:Below wx.heap.size wx wy):QS w L wy:=⟨h.1.keep k,h.2.1.keep k,h.2.2.trans (k.mono h.2.2.size)⟩
theorem QS.set{w wx:World}{L:List (BitVec 32)}(h:QS w L wx)(i:Nat)(x:BitVec 32):QS w (L.set i x) (wx.setCell ⟨w.heap.size,i,none⟩ (.int .u32 (V x))):=by
 have e:wx.setCell ⟨w.heap.size,i,none⟩ (.int .u32 (V x))=wx.setRow w.heap.size (Vs (L.set i x)):=by rw[h.1.set,iz]
 rw[e];exact⟨h.1.row _,h.2.1.other (by omega) _,below_setRow h.2.2 nR _⟩
theorem dt(l:List (BitVec 32))(a b c d:Nat)(w:World)(hl:l.length=16)(ha:a<16)(hb:b<16)(hc:c<16)(hd:d<16)(had:a≠d)(hcb:c≠b):
  Rw 237 #[.agg (Vs l),.int .i64 a,.int .i64 b,.int .i64 c,.int .i64 d] w (.agg (Vs (Cc.tP l a b c d))):=by
 have HQ:Hid (bm (bn (bm (bn (bm (bn (bm (bn l a b) d a 16) c d) b c 12) a b) d a 8) c d) b c 7=Cc.tP l a b c d):=te l a b c d hl ha hc had hcb;generalize Cc.tP l a b c d=R at HQ⊢;have hz:=kP;have hns:=Vz hl;have ia:(a:Int)<16:=by omega
 have ib:(b:Int)<16:=by omega
 have ic:(c:Int)<16:=by omega
 have id:(d:Int)<16:=by omega
 have hS:QS w l ((w.alloc (.cells (Vs l) 203)).alloc (.cells (Vs none16) 203)):=⟨heap_alloc2_old w _ _,heap_alloc2_new w _ _,(bR.alloc nR _).alloc (by simp) _⟩;go_enter Tryz.func237,Tryz.ntmps237;go_wp2_with fail;generalize (w.alloc (.cells (Vs l) 203)).alloc (.cells (Vs none16) 203)=w0 at hS⊢;refine ai (S:=QS w l) (ls:= [9]) (by kernel_rfl) ?_;have hSd:QS w l w0.drew:=hS.drew;clear hS;generalize w0.drew=wd1 at hSd⊢;have hS:=hSd;clear hSd;have cX:Hid (∀wx,QS w l wx→wx.cell? ⟨w.heap.size,a,none⟩=some (.int .u32 (V (l.getD a 0)))):=fun wx h=>bp h.1 a (by omega)
 have cY:Hid (∀wx,QS w l wx→wx.cell? ⟨w.heap.size,b,none⟩=some (.int .u32 (V (l.getD b 0)))):=fun wx h=>bp h.1 b (by omega)
 have eN:Hid (bn l a b=l.set a (l.getD a 0+l.getD b 0)):=rfl;generalize l.getD a 0=gx1 at cX eN;generalize l.getD b 0=gy1 at cY eN;refine aa 0 11 (v:= .int .i64 a) hS ?_ ?_
 ·exact fun wx _=>rfl
 refine aa 1 12 (v:= .int .i64 a) hS ?_ ?_
 ·exact fun wx _=>rfl
 refine ac 2 13 (v:= .pointer (some ⟨w.heap.size,a,none⟩)) hS ?_;simp only[qQ];refine aa 3 14 (v:= .int .u32 (V gx1)) hS ?_ ?_
 ·(intro wx BM;have cc:=cX.out wx BM;clear BM;go_simp;try (with_reducible rfl))
 refine aa 4 15 (v:= .int .i64 b) hS ?_ ?_
 ·exact fun wx _=>rfl
 refine ac 5 16 (v:= .pointer (some ⟨w.heap.size,b,none⟩)) hS ?_;simp only[qQ];refine aa 6 17 (v:= .int .u32 (V gy1)) hS ?_ ?_
 ·(intro wx BM;have cc:=cY.out wx BM;clear BM;go_simp;try (with_reducible rfl))
 refine aa 7 18 (v:= .int .u32 (V (gx1+gy1))) hS ?_ ?_
 ·(intro wx BM;clear BM;go_simp;first|rw[eO]|rw[eA])
 refine ac 8 19 (v:= .pointer (some ⟨w.heap.size,a,none⟩)) hS ?_;simp only[qQ];refine am 9 fun K hK=> ?_
 have f0:=hS.1.frozen a;have cc:=cX.out _ hS;go_simp;refine hK.out _ _ ?_;clear hK K f0 cc;replace hS:=hS.set a (gx1+gy1);have hl1:(bn l a b).length=16:=by rw[de];exact hl
 rw[←eN.out]at hS;skip;replace hS:QS w (bn l a b) (wd1.setCell ⟨w.heap.size,a,none⟩ (.int .u32 (V (gx1+gy1)))):=hS;generalize wd1.setCell ⟨w.heap.size,a,none⟩ (.int .u32 (V (gx1+gy1)))=wn1 at hS⊢;clear eN cX cY;generalize bn l a b=L1 at hS HQ hl1;refine ak ?_;go_wp2_with fail;refine ai (S:=QS w L1) (ls:= [10]) (by kernel_rfl) ?_;have hSd:QS w L1 wn1.drew:=hS.drew;clear hS;generalize wn1.drew=wd2 at hSd⊢;have hS:=hSd;clear hSd;have cX:Hid (∀wx,QS w L1 wx→wx.cell? ⟨w.heap.size,d,none⟩=some (.int .u32 (V (L1.getD d 0)))):=fun wx h=>bp h.1 d (by omega)
 have cY:Hid (∀wx,QS w L1 wx→wx.cell? ⟨w.heap.size,a,none⟩=some (.int .u32 (V (L1.getD a 0)))):=fun wx h=>bp h.1 a (by omega)
 have eN:Hid (bm L1 d a 16=L1.set d (Cc.vK (L1.getD d 0^^^L1.getD a 0) 16)):=rfl;generalize L1.getD d 0=gx2 at cX eN;generalize L1.getD a 0=gy2 at cY eN;refine aa 0 20 (v:= .int .i64 d) hS ?_ ?_
 ·exact fun wx _=>rfl
 refine aa 1 21 (v:= .int .i64 d) hS ?_ ?_
 ·exact fun wx _=>rfl
 refine ac 2 22 (v:= .pointer (some ⟨w.heap.size,d,none⟩)) hS ?_;simp only[qQ];refine aa 3 23 (v:= .int .u32 (V gx2)) hS ?_ ?_
 ·(intro wx BM;have cc:=cX.out wx BM;clear BM;go_simp;try (with_reducible rfl))
 refine aa 4 24 (v:= .int .i64 a) hS ?_ ?_
 ·exact fun wx _=>rfl
 refine ac 5 25 (v:= .pointer (some ⟨w.heap.size,a,none⟩)) hS ?_;simp only[qQ];refine aa 6 26 (v:= .int .u32 (V gy2)) hS ?_ ?_
 ·(intro wx BM;have cc:=cY.out wx BM;clear BM;go_simp;try (with_reducible rfl))
 refine aa 7 27 (v:= .int .u32 (V (gx2^^^gy2))) hS ?_ ?_
 ·(intro wx BM;clear BM;go_simp;rw[iA])
 simp only[qQ];refine aj 8 fun K hK=> ?_
 go_simp;go_wp2_with (go_at_call 260;refine(iE (gx2^^^gy2) 16 _ (by omega) (by omega)).mono ?_;rintro e wf2 ⟨rfl,k0⟩);have hSk:=hS.keep k0;refine hK.out _ _ hSk ?_;try simp only[qQ]
 clear hK K k0 hS;have hS:=hSk;clear hSk;refine ac 9 29 (v:= .pointer (some ⟨w.heap.size,d,none⟩)) hS ?_;try simp only[qQ]
 refine am 10 fun K hK=> ?_
 have f0:=hS.1.frozen d;have cc:=cX.out _ hS;go_simp;refine hK.out _ _ ?_;clear hK K f0 cc;replace hS:=hS.set d (Cc.vK (gx2^^^gy2) 16);have hl2:(bm L1 d a 16).length=16:=by rw[dc];exact hl1
 rw[←eN.out]at hS;skip;replace hS:QS w (bm L1 d a 16) (wf2.setCell ⟨w.heap.size,d,none⟩ (.int .u32 (V (Cc.vK (gx2^^^gy2) 16)))):=hS;generalize wf2.setCell ⟨w.heap.size,d,none⟩ (.int .u32 (V (Cc.vK (gx2^^^gy2) 16)))=wn2 at hS⊢;clear eN cX cY;generalize bm L1 d a 16=L2 at hS HQ hl2;refine ak ?_;go_wp2_with fail;refine ai (S:=QS w L2) (ls:= [9]) (by kernel_rfl) ?_;have hSd:QS w L2 wn2.drew:=hS.drew;clear hS;generalize wn2.drew=wd3 at hSd⊢;have hS:=hSd;clear hSd;have cX:Hid (∀wx,QS w L2 wx→wx.cell? ⟨w.heap.size,c,none⟩=some (.int .u32 (V (L2.getD c 0)))):=fun wx h=>bp h.1 c (by omega)
 have cY:Hid (∀wx,QS w L2 wx→wx.cell? ⟨w.heap.size,d,none⟩=some (.int .u32 (V (L2.getD d 0)))):=fun wx h=>bp h.1 d (by omega)
 have eN:Hid (bn L2 c d=L2.set c (L2.getD c 0+L2.getD d 0)):=rfl;generalize L2.getD c 0=gx3 at cX eN;generalize L2.getD d 0=gy3 at cY eN;refine aa 0 30 (v:= .int .i64 c) hS ?_ ?_
 ·exact fun wx _=>rfl
 refine aa 1 31 (v:= .int .i64 c) hS ?_ ?_
 ·exact fun wx _=>rfl
 refine ac 2 32 (v:= .pointer (some ⟨w.heap.size,c,none⟩)) hS ?_;simp only[qQ];refine aa 3 33 (v:= .int .u32 (V gx3)) hS ?_ ?_
 ·(intro wx BM;have cc:=cX.out wx BM;clear BM;go_simp;try (with_reducible rfl))
 refine aa 4 34 (v:= .int .i64 d) hS ?_ ?_
 ·exact fun wx _=>rfl
 refine ac 5 35 (v:= .pointer (some ⟨w.heap.size,d,none⟩)) hS ?_;simp only[qQ];refine aa 6 36 (v:= .int .u32 (V gy3)) hS ?_ ?_
 ·(intro wx BM;have cc:=cY.out wx BM;clear BM;go_simp;try (with_reducible rfl))
 refine aa 7 37 (v:= .int .u32 (V (gx3+gy3))) hS ?_ ?_
 ·(intro wx BM;clear BM;go_simp;first|rw[eO]|rw[eA])
 refine ac 8 38 (v:= .pointer (some ⟨w.heap.size,c,none⟩)) hS ?_;simp only[qQ];refine am 9 fun K hK=> ?_
 have f0:=hS.1.frozen c;have cc:=cX.out _ hS;go_simp;refine hK.out _ _ ?_;clear hK K f0 cc;replace hS:=hS.set c (gx3+gy3);have hl3:(bn L2 c d).length=16:=by rw[de];exact hl2
 rw[←eN.out]at hS;skip;replace hS:QS w (bn L2 c d) (wd3.setCell ⟨w.heap.size,c,none⟩ (.int .u32 (V (gx3+gy3)))):=hS;generalize wd3.setCell ⟨w.heap.size,c,none⟩ (.int .u32 (V (gx3+gy3)))=wn3 at hS⊢;clear eN cX cY;generalize bn L2 c d=L3 at hS HQ hl3;refine ak ?_;go_wp2_with fail;refine ai (S:=QS w L3) (ls:= [10]) (by kernel_rfl) ?_;have hSd:QS w L3 wn3.drew:=hS.drew;clear hS;generalize wn3.drew=wd4 at hSd⊢;have hS:=hSd;clear hSd;have cX:Hid (∀wx,QS w L3 wx→wx.cell? ⟨w.heap.size,b,none⟩=some (.int .u32 (V (L3.getD b 0)))):=fun wx h=>bp h.1 b (by omega)
 have cY:Hid (∀wx,QS w L3 wx→wx.cell? ⟨w.heap.size,c,none⟩=some (.int .u32 (V (L3.getD c 0)))):=fun wx h=>bp h.1 c (by omega)
 have eN:Hid (bm L3 b c 12=L3.set b (Cc.vK (L3.getD b 0^^^L3.getD c 0) 12)):=rfl;generalize L3.getD b 0=gx4 at cX eN;generalize L3.getD c 0=gy4 at cY eN;refine aa 0 39 (v:= .int .i64 b) hS ?_ ?_
 ·exact fun wx _=>rfl
 refine aa 1 40 (v:= .int .i64 b) hS ?_ ?_
 ·exact fun wx _=>rfl
 refine ac 2 41 (v:= .pointer (some ⟨w.heap.size,b,none⟩)) hS ?_;simp only[qQ];refine aa 3 42 (v:= .int .u32 (V gx4)) hS ?_ ?_
 ·(intro wx BM;have cc:=cX.out wx BM;clear BM;go_simp;try (with_reducible rfl))
 refine aa 4 43 (v:= .int .i64 c) hS ?_ ?_
 ·exact fun wx _=>rfl
 refine ac 5 44 (v:= .pointer (some ⟨w.heap.size,c,none⟩)) hS ?_;simp only[qQ];refine aa 6 45 (v:= .int .u32 (V gy4)) hS ?_ ?_
 ·(intro wx BM;have cc:=cY.out wx BM;clear BM;go_simp;try (with_reducible rfl))
 refine aa 7 46 (v:= .int .u32 (V (gx4^^^gy4))) hS ?_ ?_
 ·(intro wx BM;clear BM;go_simp;rw[iA])
 simp only[qQ];refine aj 8 fun K hK=> ?_
 go_simp;go_wp2_with (go_at_call 260;refine(iE (gx4^^^gy4) 12 _ (by omega) (by omega)).mono ?_;rintro e wf4 ⟨rfl,k0⟩);have hSk:=hS.keep k0;refine hK.out _ _ hSk ?_;try simp only[qQ]
 clear hK K k0 hS;have hS:=hSk;clear hSk;refine ac 9 48 (v:= .pointer (some ⟨w.heap.size,b,none⟩)) hS ?_;try simp only[qQ]
 refine am 10 fun K hK=> ?_
 have f0:=hS.1.frozen b;have cc:=cX.out _ hS;go_simp;refine hK.out _ _ ?_;clear hK K f0 cc;replace hS:=hS.set b (Cc.vK (gx4^^^gy4) 12);have hl4:(bm L3 b c 12).length=16:=by rw[dc];exact hl3
 rw[←eN.out]at hS;skip;replace hS:QS w (bm L3 b c 12) (wf4.setCell ⟨w.heap.size,b,none⟩ (.int .u32 (V (Cc.vK (gx4^^^gy4) 12)))):=hS;generalize wf4.setCell ⟨w.heap.size,b,none⟩ (.int .u32 (V (Cc.vK (gx4^^^gy4) 12)))=wn4 at hS⊢;clear eN cX cY;generalize bm L3 b c 12=L4 at hS HQ hl4;refine ak ?_;go_wp2_with fail;refine ai (S:=QS w L4) (ls:= [9]) (by kernel_rfl) ?_;have hSd:QS w L4 wn4.drew:=hS.drew;clear hS;generalize wn4.drew=wd5 at hSd⊢;have hS:=hSd;clear hSd;have cX:Hid (∀wx,QS w L4 wx→wx.cell? ⟨w.heap.size,a,none⟩=some (.int .u32 (V (L4.getD a 0)))):=fun wx h=>bp h.1 a (by omega)
 have cY:Hid (∀wx,QS w L4 wx→wx.cell? ⟨w.heap.size,b,none⟩=some (.int .u32 (V (L4.getD b 0)))):=fun wx h=>bp h.1 b (by omega)
 have eN:Hid (bn L4 a b=L4.set a (L4.getD a 0+L4.getD b 0)):=rfl;generalize L4.getD a 0=gx5 at cX eN;generalize L4.getD b 0=gy5 at cY eN;refine aa 0 49 (v:= .int .i64 a) hS ?_ ?_
 ·exact fun wx _=>rfl
 refine aa 1 50 (v:= .int .i64 a) hS ?_ ?_
 ·exact fun wx _=>rfl
 refine ac 2 51 (v:= .pointer (some ⟨w.heap.size,a,none⟩)) hS ?_;simp only[qQ];refine aa 3 52 (v:= .int .u32 (V gx5)) hS ?_ ?_
 ·(intro wx BM;have cc:=cX.out wx BM;clear BM;go_simp;try (with_reducible rfl))
 refine aa 4 53 (v:= .int .i64 b) hS ?_ ?_
 ·exact fun wx _=>rfl
 refine ac 5 54 (v:= .pointer (some ⟨w.heap.size,b,none⟩)) hS ?_;simp only[qQ];refine aa 6 55 (v:= .int .u32 (V gy5)) hS ?_ ?_
 ·(intro wx BM;have cc:=cY.out wx BM;clear BM;go_simp;try (with_reducible rfl))
 refine aa 7 56 (v:= .int .u32 (V (gx5+gy5))) hS ?_ ?_
 ·(intro wx BM;clear BM;go_simp;first|rw[eO]|rw[eA])
 refine ac 8 57 (v:= .pointer (some ⟨w.heap.size,a,none⟩)) hS ?_;simp only[qQ];refine am 9 fun K hK=> ?_
 have f0:=hS.1.frozen a;have cc:=cX.out _ hS;go_simp;refine hK.out _ _ ?_;clear hK K f0 cc;replace hS:=hS.set a (gx5+gy5);have hl5:(bn L4 a b).length=16:=by rw[de];exact hl4
 rw[←eN.out]at hS;skip;replace hS:QS w (bn L4 a b) (wd5.setCell ⟨w.heap.size,a,none⟩ (.int .u32 (V (gx5+gy5)))):=hS;generalize wd5.setCell ⟨w.heap.size,a,none⟩ (.int .u32 (V (gx5+gy5)))=wn5 at hS⊢;clear eN cX cY;generalize bn L4 a b=L5 at hS HQ hl5;refine ak ?_;go_wp2_with fail;refine ai (S:=QS w L5) (ls:= [10]) (by kernel_rfl) ?_;have hSd:QS w L5 wn5.drew:=hS.drew;clear hS;generalize wn5.drew=wd6 at hSd⊢;have hS:=hSd;clear hSd;have cX:Hid (∀wx,QS w L5 wx→wx.cell? ⟨w.heap.size,d,none⟩=some (.int .u32 (V (L5.getD d 0)))):=fun wx h=>bp h.1 d (by omega)
 have cY:Hid (∀wx,QS w L5 wx→wx.cell? ⟨w.heap.size,a,none⟩=some (.int .u32 (V (L5.getD a 0)))):=fun wx h=>bp h.1 a (by omega)
 have eN:Hid (bm L5 d a 8=L5.set d (Cc.vK (L5.getD d 0^^^L5.getD a 0) 8)):=rfl;generalize L5.getD d 0=gx6 at cX eN;generalize L5.getD a 0=gy6 at cY eN;refine aa 0 58 (v:= .int .i64 d) hS ?_ ?_
 ·exact fun wx _=>rfl
 refine aa 1 59 (v:= .int .i64 d) hS ?_ ?_
 ·exact fun wx _=>rfl
 refine ac 2 60 (v:= .pointer (some ⟨w.heap.size,d,none⟩)) hS ?_;simp only[qQ];refine aa 3 61 (v:= .int .u32 (V gx6)) hS ?_ ?_
 ·(intro wx BM;have cc:=cX.out wx BM;clear BM;go_simp;try (with_reducible rfl))
 refine aa 4 62 (v:= .int .i64 a) hS ?_ ?_
 ·exact fun wx _=>rfl
 refine ac 5 63 (v:= .pointer (some ⟨w.heap.size,a,none⟩)) hS ?_;simp only[qQ];refine aa 6 64 (v:= .int .u32 (V gy6)) hS ?_ ?_
 ·(intro wx BM;have cc:=cY.out wx BM;clear BM;go_simp;try (with_reducible rfl))
 refine aa 7 65 (v:= .int .u32 (V (gx6^^^gy6))) hS ?_ ?_
 ·(intro wx BM;clear BM;go_simp;rw[iA])
 simp only[qQ];refine aj 8 fun K hK=> ?_
 go_simp;go_wp2_with (go_at_call 260;refine(iE (gx6^^^gy6) 8 _ (by omega) (by omega)).mono ?_;rintro e wf6 ⟨rfl,k0⟩);have hSk:=hS.keep k0;refine hK.out _ _ hSk ?_;try simp only[qQ]
 clear hK K k0 hS;have hS:=hSk;clear hSk;refine ac 9 67 (v:= .pointer (some ⟨w.heap.size,d,none⟩)) hS ?_;try simp only[qQ]
 refine am 10 fun K hK=> ?_
 have f0:=hS.1.frozen d;have cc:=cX.out _ hS;go_simp;refine hK.out _ _ ?_;clear hK K f0 cc;replace hS:=hS.set d (Cc.vK (gx6^^^gy6) 8);have hl6:(bm L5 d a 8).length=16:=by rw[dc];exact hl5
 rw[←eN.out]at hS;skip;replace hS:QS w (bm L5 d a 8) (wf6.setCell ⟨w.heap.size,d,none⟩ (.int .u32 (V (Cc.vK (gx6^^^gy6) 8)))):=hS;generalize wf6.setCell ⟨w.heap.size,d,none⟩ (.int .u32 (V (Cc.vK (gx6^^^gy6) 8)))=wn6 at hS⊢;clear eN cX cY;generalize bm L5 d a 8=L6 at hS HQ hl6;refine ak ?_;go_wp2_with fail;refine ai (S:=QS w L6) (ls:= [9]) (by kernel_rfl) ?_;have hSd:QS w L6 wn6.drew:=hS.drew;clear hS;generalize wn6.drew=wd7 at hSd⊢;have hS:=hSd;clear hSd;have cX:Hid (∀wx,QS w L6 wx→wx.cell? ⟨w.heap.size,c,none⟩=some (.int .u32 (V (L6.getD c 0)))):=fun wx h=>bp h.1 c (by omega)
 have cY:Hid (∀wx,QS w L6 wx→wx.cell? ⟨w.heap.size,d,none⟩=some (.int .u32 (V (L6.getD d 0)))):=fun wx h=>bp h.1 d (by omega)
 have eN:Hid (bn L6 c d=L6.set c (L6.getD c 0+L6.getD d 0)):=rfl;generalize L6.getD c 0=gx7 at cX eN;generalize L6.getD d 0=gy7 at cY eN;refine aa 0 68 (v:= .int .i64 c) hS ?_ ?_
 ·exact fun wx _=>rfl
 refine aa 1 69 (v:= .int .i64 c) hS ?_ ?_
 ·exact fun wx _=>rfl
 refine ac 2 70 (v:= .pointer (some ⟨w.heap.size,c,none⟩)) hS ?_;simp only[qQ];refine aa 3 71 (v:= .int .u32 (V gx7)) hS ?_ ?_
 ·(intro wx BM;have cc:=cX.out wx BM;clear BM;go_simp;try (with_reducible rfl))
 refine aa 4 72 (v:= .int .i64 d) hS ?_ ?_
 ·exact fun wx _=>rfl
 refine ac 5 73 (v:= .pointer (some ⟨w.heap.size,d,none⟩)) hS ?_;simp only[qQ];refine aa 6 74 (v:= .int .u32 (V gy7)) hS ?_ ?_
 ·(intro wx BM;have cc:=cY.out wx BM;clear BM;go_simp;try (with_reducible rfl))
 refine aa 7 75 (v:= .int .u32 (V (gx7+gy7))) hS ?_ ?_
 ·(intro wx BM;clear BM;go_simp;first|rw[eO]|rw[eA])
 refine ac 8 76 (v:= .pointer (some ⟨w.heap.size,c,none⟩)) hS ?_;simp only[qQ];refine am 9 fun K hK=> ?_
 have f0:=hS.1.frozen c;have cc:=cX.out _ hS;go_simp;refine hK.out _ _ ?_;clear hK K f0 cc;replace hS:=hS.set c (gx7+gy7);have hl7:(bn L6 c d).length=16:=by rw[de];exact hl6
 rw[←eN.out]at hS;skip;replace hS:QS w (bn L6 c d) (wd7.setCell ⟨w.heap.size,c,none⟩ (.int .u32 (V (gx7+gy7)))):=hS;generalize wd7.setCell ⟨w.heap.size,c,none⟩ (.int .u32 (V (gx7+gy7)))=wn7 at hS⊢;clear eN cX cY;generalize bn L6 c d=L7 at hS HQ hl7;refine ak ?_;go_wp2_with fail;refine ai (S:=QS w L7) (ls:= [10]) (by kernel_rfl) ?_;have hSd:QS w L7 wn7.drew:=hS.drew;clear hS;generalize wn7.drew=wd8 at hSd⊢;have hS:=hSd;clear hSd;have cX:Hid (∀wx,QS w L7 wx→wx.cell? ⟨w.heap.size,b,none⟩=some (.int .u32 (V (L7.getD b 0)))):=fun wx h=>bp h.1 b (by omega)
 have cY:Hid (∀wx,QS w L7 wx→wx.cell? ⟨w.heap.size,c,none⟩=some (.int .u32 (V (L7.getD c 0)))):=fun wx h=>bp h.1 c (by omega)
 have eN:Hid (bm L7 b c 7=L7.set b (Cc.vK (L7.getD b 0^^^L7.getD c 0) 7)):=rfl;generalize L7.getD b 0=gx8 at cX eN;generalize L7.getD c 0=gy8 at cY eN;refine aa 0 77 (v:= .int .i64 b) hS ?_ ?_
 ·exact fun wx _=>rfl
 refine aa 1 78 (v:= .int .i64 b) hS ?_ ?_
 ·exact fun wx _=>rfl
 refine ac 2 79 (v:= .pointer (some ⟨w.heap.size,b,none⟩)) hS ?_;simp only[qQ];refine aa 3 80 (v:= .int .u32 (V gx8)) hS ?_ ?_
 ·(intro wx BM;have cc:=cX.out wx BM;clear BM;go_simp;try (with_reducible rfl))
 refine aa 4 81 (v:= .int .i64 c) hS ?_ ?_
 ·exact fun wx _=>rfl
 refine ac 5 82 (v:= .pointer (some ⟨w.heap.size,c,none⟩)) hS ?_;simp only[qQ];refine aa 6 83 (v:= .int .u32 (V gy8)) hS ?_ ?_
 ·(intro wx BM;have cc:=cY.out wx BM;clear BM;go_simp;try (with_reducible rfl))
 refine aa 7 84 (v:= .int .u32 (V (gx8^^^gy8))) hS ?_ ?_
 ·(intro wx BM;clear BM;go_simp;rw[iA])
 simp only[qQ];refine aj 8 fun K hK=> ?_
 go_simp;go_wp2_with (go_at_call 260;refine(iE (gx8^^^gy8) 7 _ (by omega) (by omega)).mono ?_;rintro e wf8 ⟨rfl,k0⟩);have hSk:=hS.keep k0;refine hK.out _ _ hSk ?_;try simp only[qQ]
 clear hK K k0 hS;have hS:=hSk;clear hSk;refine ac 9 86 (v:= .pointer (some ⟨w.heap.size,b,none⟩)) hS ?_;try simp only[qQ]
 refine am 10 fun K hK=> ?_
 have f0:=hS.1.frozen b;have cc:=cX.out _ hS;go_simp;refine hK.out _ _ ?_;clear hK K f0 cc;replace hS:=hS.set b (Cc.vK (gx8^^^gy8) 7);have hl8:(bm L7 b c 7).length=16:=by rw[dc];exact hl7
 rw[←eN.out]at hS;skip;replace hS:QS w (bm L7 b c 7) (wf8.setCell ⟨w.heap.size,b,none⟩ (.int .u32 (V (Cc.vK (gx8^^^gy8) 7)))):=hS;generalize wf8.setCell ⟨w.heap.size,b,none⟩ (.int .u32 (V (Cc.vK (gx8^^^gy8) 7)))=wn8 at hS⊢;clear eN cX cY;generalize bm L7 b c 7=L8 at hS HQ hl8;refine ak ?_;have e16:=Vz hl8;have g0:=hS.1;have g1:=hS.2.1;unfold Blk at g0 g1;go_wp2_with (first
  |(refine ld bK rfl rfl w.heap.size rfl g0 e16 ?_)
  |(refine st bK rfl rfl (w.heap.size+1) rfl rfl g1 e16 rfl (ct _) ?_))
 rw[←show L8=R from HQ.out];refine bodyPost_ret (v:= .agg (Vs L8)) ?_ rfl ⟨rfl,below_setRow hS.2.2 (by omega) _⟩;exact rr bK rfl rfl (hS.2.1.row _) e16
namespace Cc
def yn(l:List (BitVec 32)):Nat→List (BitVec 32)
 |0=>l
 |k+1=>tP (yn l k) k (4+k) (8+k) (12+k)
def xv(l:List (BitVec 32)):Nat→List (BitVec 32)
 |0=>l
 |k+1=>tP (xv l k) k (4+(k+1)%4) (8+(k+2)%4) (12+(k+3)%4)
theorem yQ(l:List (BitVec 32)): ∀k,(yn l k).length=l.length
 |0=>rfl
 |k+1=>by rw[yn,tZ,yQ l k]
theorem AJ(l:List (BitVec 32)): ∀k,(xv l k).length=l.length
 |0=>rfl
 |k+1=>by rw[xv,tZ,AJ l k]
theorem stir_two(l:List (BitVec 32)):BE l=xv (yn l 4) 4:=rfl
def zC(W:Nat→BitVec 32):Nat→List UInt8
 |0=> []
 |k+1=>zC W k++Fd.lo (W k).toNat 4
theorem AH(W:Nat→BitVec 32): ∀k,(zC W k).length=4*k
 |0=>rfl
 |k+1=>by rw[zC,List.length_append,AH W k,Fd.tV];omega
theorem put_at(l:List UInt8)(off:Nat)(x:BitVec 32)(k j:Nat)(h:off+k≤l.length):(put l off x k).getD j 0=if off≤j∧j<off+k then byteAt x (j - off)else l.getD j 0:=by
 induction k with
 |zero=>rw[put,if_neg (by omega)]
 |succ k ih=>
  rw[put];by_cases e:off+k=j
  ·subst e;rw[dh _ _ _ _ (by rw[put_length];omega),if_pos (by omega),show off+k - off=k by omega]
  ·rw[cL _ _ _ _ _ e,ih (by omega)];by_cases h1:off≤j∧j<off+k
   ·rw[if_pos h1,if_pos (by omega)]
   ·rw[if_neg h1,if_neg (by omega)]
theorem tellTo_at(W:Nat→BitVec 32): ∀(k j:Nat),k≤16→j<4*k→(tellTo W k).getD j 0=byteAt (W (j/4)) (j%4)
 |0,j,_,h=>by omega
 |k+1,j,hk,h=>by
  rw[tellTo,put_at _ _ _ _ _ (by rw[tellTo_length];omega)];by_cases h1:k*4≤j∧j<k*4+4
  ·rw[if_pos h1,show j/4=k by omega,show j - k*4=j%4 by omega]
  ·rw[if_neg h1,tellTo_at W k j (by omega) (by omega)]
theorem lo_at(n k j:Nat)(h:j<k):(Fd.lo n k).getD j 0=UInt8.ofNat (n/256^j%256):=by
 induction k with
 |zero=>omega
 |succ k ih=>
  rw[Fd.lo];by_cases e:j<k
  ·rw[List.getD_eq_getElem?_getD,List.getElem?_append_left (by rw[Fd.tV];exact e),←List.getD_eq_getElem?_getD,ih e]
  ·rw[List.getD_eq_getElem?_getD,List.getElem?_append_right (by rw[Fd.tV];omega),Fd.tV,show j - k=0 by omega,show j=k by omega];rfl
theorem byteAt_lo(x:BitVec 32)(j:Nat):byteAt x j=UInt8.ofNat (x.toNat/256^j%256):=by
 unfold byteAt;rw[BitVec.toNat_ushiftRight,Nat.shiftRight_eq_div_pow,Nat.pow_mul,show (2:Nat)^8=256 by decide];apply UInt8.toNat_inj.1
 rw[UInt8.toNat_ofNat',UInt8.toNat_ofNat'];omega
theorem outTo_at(W:Nat→BitVec 32): ∀(k j:Nat),j<4*k→(zC W k).getD j 0=byteAt (W (j/4)) (j%4)
 |0,j,h=>by omega
 |k+1,j,h=>by
  rw[zC];by_cases e:j<4*k
  ·rw[List.getD_eq_getElem?_getD,List.getElem?_append_left (by rw[AH];exact e),←List.getD_eq_getElem?_getD,outTo_at W k j e]
  ·rw[List.getD_eq_getElem?_getD,List.getElem?_append_right (by rw[AH];omega),AH,←List.getD_eq_getElem?_getD,lo_at _ _ _ (by omega),show j/4=k by omega,show j - 4*k=j%4 by omega,byteAt_lo]
theorem out_tell(W:Nat→BitVec 32):zC W 16=tellTo W 16:=by
 apply List.ext_getElem?
 intro j;by_cases h:j<64
 ·have h1:j<(zC W 16).length:=by rw[AH];omega
  have h2:j<(tellTo W 16).length:=by rw[tellTo_length];omega
  have e:=(outTo_at W 16 j (by omega)).trans (tellTo_at W 16 j (by omega) (by omega)).symm;rw[List.getD_eq_getElem?_getD,List.getD_eq_getElem?_getD,List.getElem?_eq_getElem h1,List.getElem?_eq_getElem h2]at e;rw[List.getElem?_eq_getElem h1,List.getElem?_eq_getElem h2];exact congrArg some e
 ·rw[List.getElem?_eq_none (by rw[AH];omega),List.getElem?_eq_none (by rw[tellTo_length];omega)]
end Cc
theorem kY(s:ByteArray)(o:Nat)(w:World)(h:o+4≤s.size):
  Rw 236 #[.string (s.extract o (o+4))] w (.int .u32 (V (Cc.vJ s o))):=by
 refine sq (s.extract o (o+4)) (fun i=>s.data.toList.getD (o+i) 0) w (by simp;omega) fun i hi=> ?_
 rw[←bM _ _ (by simp;omega),←bM s (o+i) (by omega)];simp[ByteArray.getElem_eq_getElem_data]
theorem kw(l:List (BitVec 32))(k:Nat)(w:World)(hl:l.length=16)(hk:k<4):
  Rw 237 #[.agg (Vs l),.int .i64 k,.int .i64 (4+(k:Int)),.int .i64 (8+(k:Int)),.int .i64 (12+(k:Int))] w (.agg (Vs (Cc.tP l k (4+k) (8+k) (12+k)))):=by
 have:=dt l k (4+k) (8+k) (12+k) w hl (by omega) (by omega) (by omega) (by omega) (by omega) (by omega);rw[show ((4+k:Nat):Int)=4+(k:Int) by omega,show ((8+k:Nat):Int)=8+(k:Int) by omega,show ((12+k:Nat):Int)=12+(k:Int) by omega]at this;exact this
theorem lz(key BJ:ByteArray)(c:Nat)(w:World)(hk:key.size=32)(hn:BJ.size=12)(hc:c≤1000000):
  Rw 196 #[.string key,.int .i64 c,.string BJ] w (.string ⟨(Cc.blk key (BitVec.ofNat 32 c) BJ).toArray⟩):=by
 have HK:Hid (∀k,k<8→Cc.vJ key (k*4)=Cc.first key (BitVec.ofNat 32 c) BJ (4+k)):=fun k h=>i8 key BJ _ k h
 have HN:Hid (∀k,k<3→Cc.vJ BJ (k*4)=Cc.first key (BitVec.ofNat 32 c) BJ (13+k)):=fun k h=>f8 key BJ _ k h
 have HC:Hid (BitVec.ofNat 32 c=Cc.first key (BitVec.ofNat 32 c) BJ 12):=f9 key BJ _;have HF:Hid (F16=Vs (Cc.rowTo (Cc.first key (BitVec.ofNat 32 c) BJ) 4)):=oc key BJ _;generalize hW:Cc.first key (BitVec.ofNat 32 c) BJ=W at HK HN HC HF;have HR:Hid (Cc.blk key (BitVec.ofNat 32 c) BJ=Cc.zC (fun i=>(Cc.turned (Cc.rowTo W 16) 10).getD i 0+W i) 16):=by
  subst hW;exact(Cc.out_tell _).symm
 clear hW;generalize Cc.blk key (BitVec.ofNat 32 c) BJ=R at HR⊢;have hz:=kP;have B1:Hid (∀wx:World,(Instr.build 203 #[(0,.int .u32 1634760805),(1,.int .u32 857760878),(2,.int .u32 2036477234),(3,.int .u32 1797285236)]).run Tryz.prog wx= .ok (.agg (Vs (Cc.rowTo W 4))) wx):=fun wx=>by rw[←HF.out];exact run_build _ _ _ _ (by kernel_rfl)
 clear HF;have e4:(Vs (Cc.rowTo W 4)).size=16:=by rw[eu,Cc.rowTo_length]
 have gz:=Blk.new w (Vs none16) 203;have hb:=gz.row (Vs (Cc.rowTo W 4));have bel:Below w.heap.size w ((w.alloc (.cells (Vs none16) 203)).setRow w.heap.size (Vs (Cc.rowTo W 4))):=below_setRow (bR.alloc nR _) nR _;unfold Blk at gz;go_enter Tryz.func196,Tryz.ntmps196;go_wp2_with (first
  |(refine Rp.uf rfl 203 _ rfl [(0,.int .u32 1634760805),(1,.int .u32 857760878),(2,.int .u32 2036477234),(3,.int .u32 1797285236)] rfl _ (B1.out _) ?_)
  |(refine st bK rfl rfl w.heap.size rfl rfl gz e4 rfl (ct _) ?_))
 clear gz B1;generalize (w.alloc (.cells (Vs none16) 203)).setRow w.heap.size (Vs (Cc.rowTo W 4))=w1 at hb bel⊢;go_loopw [8] (fun i wr=> ∃k:Nat,k≤8∧i= .int .i64 k∧Blk wr w.heap.size (Vs (Cc.rowTo W (4+k))) 203∧Below w.heap.size w wr) (fun i _=>8 - (intOf i).toNat)
 case atStart=>exact⟨0,by omega,rfl,hb,bel⟩
 case round=>
  clear hb bel;obtain⟨k,hk8,rfl,hb,bel⟩:=hrel;by_cases hlt:k<8
  ·have i0:(k:Int)<8:=by omega
   go_wp2_with fail;refine(kY key (4*k) _ (by omega)).mono ?_;rintro e w2 ⟨rfl,k2⟩;replace hb:=hb.keep k2;replace bel:=bel.trans (k2.mono bel.size);rw[show Cc.vJ key (4*k)=W (4+k)from by rw[Nat.mul_comm];exact HK.out k hlt];have g1:=hb.cell (4+k);rw[cA _ _ (by rw[Cc.rowTo_length];omega)]at g1;have g2:=hb.frozen (4+k);have R1:=bW (w:=w) (B:=w.heap.size) (k:=4+k) (x:=W (4+k)) (by omega) hb nR bel rfl;go_wp2;go_roundw
   case rel=>exact⟨k+1,by omega,by go_num,R1.1,R1.2.2⟩
   case measure=>simp[intOf];omega
  ·have hk8':k=8:=by omega
   subst hk8';rw[show ((8:Nat):Int)=8 from rfl];have g1:=hb.cell 12;rw[cA _ _ (by rw[Cc.rowTo_length];omega)]at g1;have g2:=hb.frozen 12;have hcv:(c:Int)%4294967296=V (W 12):=by rw[←HC.out,←mF c (by omega)];omega
   have hcw:IntKind.u32.wrap (c:Int)=V (W 12):=by rw[IntKind.wrap_u32];exact hcv
   have R1:=bW (w:=w) (B:=w.heap.size) (k:=12) (x:=W 12) (by omega) hb nR bel rfl;go_wp2;generalize wr.setCell ⟨w.heap.size,12,none⟩ (.int .u32 (V (W 12)))=wq at R1⊢;obtain⟨hb1,_,BR⟩:=R1;clear g1 g2 hb bel hcv hcw;go_loopw [9] (fun i wr=> ∃k:Nat,k≤3∧i= .int .i64 k∧Blk wr w.heap.size (Vs (Cc.rowTo W (13+k))) 203∧Below w.heap.size w wr) (fun i _=>3 - (intOf i).toNat)
   case atStart=>exact⟨0,by omega,rfl,hb1,BR⟩
   case round=>
    clear hb1 BR;obtain⟨k,hk3,rfl,hb,bel⟩:=hrel;by_cases hlt:k<3
    ·have i0:(k:Int)<3:=by omega
     go_wp2_with fail;refine(kY BJ (4*k) _ (by omega)).mono ?_;rintro e w2 ⟨rfl,k2⟩;replace hb:=hb.keep k2;replace bel:=bel.trans (k2.mono bel.size);rw[show Cc.vJ BJ (4*k)=W (13+k)from by rw[Nat.mul_comm];exact HN.out k hlt];have g1:=hb.cell (13+k);rw[cA _ _ (by rw[Cc.rowTo_length];omega)]at g1;have g2:=hb.frozen (13+k);have R1:=bW (w:=w) (B:=w.heap.size) (k:=13+k) (x:=W (13+k)) (by omega) hb nR bel rfl;go_wp2;go_roundw
     case rel=>exact⟨k+1,by omega,by go_num,R1.1,R1.2.2⟩
     case measure=>simp[intOf];omega
    ·have hk3':k=3:=by omega
     subst hk3';rw[show ((3:Nat):Int)=3 from rfl];rw[show 13+3=16 from rfl]at hb;have hX:Hid (∀i,i<16→(Cc.rowTo W 16).getD i 0=W i):=fun i hi=>Cc.z8 W i hi
     have lX:=Cc.rowTo_length W 16;generalize Cc.rowTo W 16=X at hb HR hX lX;have sX:=Vz lX;have g0:=hb;have gn:=Blk.new wr (Vs none16) 203;have hbn:=hb.alloc (.cells (Vs none16) 203);have hlt2:=hb.lt;have hb2:Blk ((wr.alloc (.cells (Vs none16) 203)).setRow wr.heap.size (Vs X)) wr.heap.size (Vs X) 203:=gn.row _;have hb3:Blk ((wr.alloc (.cells (Vs none16) 203)).setRow wr.heap.size (Vs X)) w.heap.size (Vs X) 203:=hbn.other (by omega) _;have BS:Below w.heap.size w ((wr.alloc (.cells (Vs none16) 203)).setRow wr.heap.size (Vs X)):=below_setRow (bel.alloc bel.size _) bel.size _;unfold Blk at g0 gn;clear hbn;go_wp2_with (first
      |(refine ld bK rfl rfl w.heap.size rfl g0 sX ?_)
      |(refine st bK rfl rfl wr.heap.size rfl rfl gn sX rfl (ct _) ?_))
     clear g0 gn hb;generalize (wr.alloc (.cells (Vs none16) 203)).setRow wr.heap.size (Vs X)=w3 at hb2 hb3 BS⊢;generalize wr.heap.size=q at hb2 hlt2⊢;clear bel;go_loopw [11] (fun i wy=> ∃k:Nat,k≤10∧i= .int .i64 k∧Blk wy q (Vs (Cc.turned X k)) 203∧Blk wy w.heap.size (Vs X) 203∧Below w.heap.size w wy) (fun i _=>10 - (intOf i).toNat)
     case atStart=>exact⟨0,by omega,rfl,hb2,hb3,BS⟩
     case round=>
      clear hb2 hb3 BS;obtain⟨r,hr,rfl,hb2,hb3,bel⟩:=hrel;by_cases hlt:r<10
      ·have r0:(r:Int)<10:=by omega
       have lY:(Cc.turned X r).length=16:=by rw[Cc.vT,lX]
       have HT:Hid (Cc.turned X (r+1)=Cc.xv (Cc.yn (Cc.turned X r) 4) 4):=Cc.stir_two _;generalize Cc.turned X r=Y at hb2 lY HT;go_wp2_with fail;go_loopw [12] (fun i wz=> ∃k:Nat,k≤4∧i= .int .i64 k∧Blk wz q (Vs (Cc.yn Y k)) 203∧Blk wz w.heap.size (Vs X) 203∧Below w.heap.size w wz) (fun i _=>4 - (intOf i).toNat)
       case atStart=>exact⟨0,by omega,rfl,hb2,hb3,bel⟩
       case round=>
        clear hb2 hb3 bel;obtain⟨k,hk4,rfl,hb2,hb3,bel⟩:=hrel;by_cases hkt:k<4
        ·have k0:(k:Int)<4:=by omega
         have lZ:(Cc.yn Y k).length=16:=by rw[Cc.yQ,lY]
         have HZ:Hid (Cc.yn Y (k+1)=Cc.tP (Cc.yn Y k) k (4+k) (8+k) (12+k)):=rfl;generalize Cc.yn Y k=Z at hb2 lZ HZ;have sZ:=Vz lZ;have HQ:Hid (Rv 237 #[.agg (Vs Z),.int .i64 k,.int .i64 (4+(k:Int)),.int .i64 (8+(k:Int)),.int .i64 (12+(k:Int))] (.agg (Vs (Cc.tP Z k (4+k) (8+k) (12+k))))):=fun wx=>kw Z k wx lZ hkt
         have lQ:(Cc.tP Z k (4+k) (8+k) (12+k)).length=16:=by rw[Cc.tZ,lZ]
         generalize Cc.tP Z k (4+k) (8+k) (12+k)=Q at HQ lQ HZ;have sQ:=Vz lQ;have g0:=hb2;unfold Blk at g0;go_wp2_with (refine ld bK rfl rfl q rfl g0 sZ ?_);clear g0;refine gv HQ fun w5 k5=> ?_
         replace hb2:=hb2.keep k5;replace hb3:=hb3.keep k5;replace bel:=bel.trans (k5.mono bel.size);have g1:=hb2;unfold Blk at g1;go_wp2_with (refine st bK rfl rfl q rfl rfl g1 sQ sZ (ct _) ?_);go_roundw
         case rel=>
          refine⟨k+1,by omega,by go_num,?_,hb3.other (by omega) _,below_setRow bel (by omega) _⟩;rw[HZ.out];exact hb2.row _
         case measure=>simp[intOf];omega
        ·have hk4':k=4:=by omega
         subst hk4';rw[show ((4:Nat):Int)=4 from rfl];have lC:(Cc.yn Y 4).length=16:=by rw[Cc.yQ,lY]
         generalize Cc.yn Y 4=C at hb2 HT lC;go_wp2_with fail;go_loopw [13] (fun i wz=> ∃k:Nat,k≤4∧i= .int .i64 k∧Blk wz q (Vs (Cc.xv C k)) 203∧Blk wz w.heap.size (Vs X) 203∧Below w.heap.size w wz) (fun i _=>4 - (intOf i).toNat)
         case atStart=>exact⟨0,by omega,rfl,hb2,hb3,bel⟩
         case round=>
          clear hb2 hb3 bel;obtain⟨k,hk4,rfl,hb2,hb3,bel⟩:=hrel;by_cases hkt:k<4
          ·have lZ:(Cc.xv C k).length=16:=by rw[Cc.AJ,lC]
           have HZ:Hid (Cc.xv C (k+1)=Cc.tP (Cc.xv C k) k (4+(k+1)%4) (8+(k+2)%4) (12+(k+3)%4)):=rfl;generalize Cc.xv C k=Z at hb2 lZ HZ;have sZ:=Vz lZ;have g0:=hb2;unfold Blk at g0;have hkk:k=0∨k=1∨k=2∨k=3:=by omega
           rcases hkk with rfl|rfl|rfl|rfl
           ·rw[show ((0:Nat):Int)=0 from rfl];have HQ:Hid (Rv 237 #[.agg (Vs Z),.int .i64 0,.int .i64 5,.int .i64 10,.int .i64 15] (.agg (Vs (Cc.tP Z 0 5 10 15)))):=fun wx=>dt Z 0 5 10 15 wx lZ (by omega) (by omega) (by omega) (by omega) (by omega) (by omega)
            have lQ:(Cc.tP Z 0 5 10 15).length=16:=by rw[Cc.tZ,lZ]
            replace HZ:Hid (Cc.xv C 1=Cc.tP Z 0 5 10 15):=HZ;generalize Cc.tP Z 0 5 10 15=Q at HQ lQ HZ;have sQ:=Vz lQ;go_wp2_with (refine ld bK rfl rfl q rfl g0 sZ ?_);clear g0;refine gv HQ fun w5 k5=> ?_
            replace hb2:=hb2.keep k5;replace hb3:=hb3.keep k5;replace bel:=bel.trans (k5.mono bel.size);have g1:=hb2;unfold Blk at g1;go_wp2_with (refine st bK rfl rfl q rfl rfl g1 sQ sZ (ct _) ?_);go_roundw
            case rel=>
             refine⟨1,by omega,by go_num,?_,hb3.other (by omega) _,below_setRow bel (by omega) _⟩;rw[HZ.out];exact hb2.row _
            case measure=>simp[intOf]
           ·rw[show ((1:Nat):Int)=1 from rfl];have HQ:Hid (Rv 237 #[.agg (Vs Z),.int .i64 1,.int .i64 6,.int .i64 11,.int .i64 12] (.agg (Vs (Cc.tP Z 1 6 11 12)))):=fun wx=>dt Z 1 6 11 12 wx lZ (by omega) (by omega) (by omega) (by omega) (by omega) (by omega)
            have lQ:(Cc.tP Z 1 6 11 12).length=16:=by rw[Cc.tZ,lZ]
            replace HZ:Hid (Cc.xv C 2=Cc.tP Z 1 6 11 12):=HZ;generalize Cc.tP Z 1 6 11 12=Q at HQ lQ HZ;have sQ:=Vz lQ;go_wp2_with (refine ld bK rfl rfl q rfl g0 sZ ?_);clear g0;refine gv HQ fun w5 k5=> ?_
            replace hb2:=hb2.keep k5;replace hb3:=hb3.keep k5;replace bel:=bel.trans (k5.mono bel.size);have g1:=hb2;unfold Blk at g1;go_wp2_with (refine st bK rfl rfl q rfl rfl g1 sQ sZ (ct _) ?_);go_roundw
            case rel=>
             refine⟨2,by omega,by go_num,?_,hb3.other (by omega) _,below_setRow bel (by omega) _⟩;rw[HZ.out];exact hb2.row _
            case measure=>simp[intOf]
           ·rw[show ((2:Nat):Int)=2 from rfl];have HQ:Hid (Rv 237 #[.agg (Vs Z),.int .i64 2,.int .i64 7,.int .i64 8,.int .i64 13] (.agg (Vs (Cc.tP Z 2 7 8 13)))):=fun wx=>dt Z 2 7 8 13 wx lZ (by omega) (by omega) (by omega) (by omega) (by omega) (by omega)
            have lQ:(Cc.tP Z 2 7 8 13).length=16:=by rw[Cc.tZ,lZ]
            replace HZ:Hid (Cc.xv C 3=Cc.tP Z 2 7 8 13):=HZ;generalize Cc.tP Z 2 7 8 13=Q at HQ lQ HZ;have sQ:=Vz lQ;go_wp2_with (refine ld bK rfl rfl q rfl g0 sZ ?_);clear g0;refine gv HQ fun w5 k5=> ?_
            replace hb2:=hb2.keep k5;replace hb3:=hb3.keep k5;replace bel:=bel.trans (k5.mono bel.size);have g1:=hb2;unfold Blk at g1;go_wp2_with (refine st bK rfl rfl q rfl rfl g1 sQ sZ (ct _) ?_);go_roundw
            case rel=>
             refine⟨3,by omega,by go_num,?_,hb3.other (by omega) _,below_setRow bel (by omega) _⟩;rw[HZ.out];exact hb2.row _
            case measure=>simp[intOf]
           ·rw[show ((3:Nat):Int)=3 from rfl];have HQ:Hid (Rv 237 #[.agg (Vs Z),.int .i64 3,.int .i64 4,.int .i64 9,.int .i64 14] (.agg (Vs (Cc.tP Z 3 4 9 14)))):=fun wx=>dt Z 3 4 9 14 wx lZ (by omega) (by omega) (by omega) (by omega) (by omega) (by omega)
            have lQ:(Cc.tP Z 3 4 9 14).length=16:=by rw[Cc.tZ,lZ]
            replace HZ:Hid (Cc.xv C 4=Cc.tP Z 3 4 9 14):=HZ;generalize Cc.tP Z 3 4 9 14=Q at HQ lQ HZ;have sQ:=Vz lQ;go_wp2_with (refine ld bK rfl rfl q rfl g0 sZ ?_);clear g0;refine gv HQ fun w5 k5=> ?_
            replace hb2:=hb2.keep k5;replace hb3:=hb3.keep k5;replace bel:=bel.trans (k5.mono bel.size);have g1:=hb2;unfold Blk at g1;go_wp2_with (refine st bK rfl rfl q rfl rfl g1 sQ sZ (ct _) ?_);go_roundw
            case rel=>
             refine⟨4,by omega,by go_num,?_,hb3.other (by omega) _,below_setRow bel (by omega) _⟩;rw[HZ.out];exact hb2.row _
            case measure=>simp[intOf]
          ·have hk4':k=4:=by omega
           subst hk4';rw[show ((4:Nat):Int)=4 from rfl];rw[←HT.out]at hb2;go_wp2_with fail;go_roundw
           case rel=>exact⟨r+1,by omega,by go_num,hb2,hb3,bel⟩
           case measure=>simp[intOf];omega
      ·have hr10:r=10:=by omega
       subst hr10;rw[show ((10:Nat):Int)=10 from rfl];have lY:(Cc.turned X 10).length=16:=by rw[Cc.vT,lX]
       generalize Cc.turned X 10=Y at hb2 lY HR;go_wp2_with fail;go_loopw [14,15] (fun s i wz=> ∃k:Nat,k≤16∧i= .int .i64 k∧s= .string ⟨(Cc.zC (fun i=>Y.getD i 0+W i) k).toArray⟩∧Blk wz q (Vs Y) 203∧Blk wz w.heap.size (Vs X) 203∧Below w.heap.size w wz) (fun _ i _=>16 - (intOf i).toNat)
       case atStart=>exact⟨0,by omega,rfl,rfl,hb2,hb3,bel⟩
       case round=>
        clear hb2 hb3 bel;obtain⟨k,BZ,rfl,rfl,hb2,hb3,bel⟩:=hrel;by_cases hkt:k<16
        ·have k0:(k:Int)<16:=by omega
         have HO:Hid (Cc.zC (fun i=>Y.getD i 0+W i) (k+1)=Cc.zC (fun i=>Y.getD i 0+W i) k++Fd.lo (Y.getD k 0+W k).toNat 4):=rfl;have lo:=Cc.AH (fun i=>Y.getD i 0+W i) k;have cX:Hid (∀wx,(fun wx=>Blk wx q (Vs Y) 203∧Blk wx w.heap.size (Vs X) 203∧Below w.heap.size w wx) wx→wx.cell? ⟨w.heap.size,k,none⟩=some (.int .u32 (V (W k)))):=fun wx h=>by have:=bp h.2.1 k (by omega);rw[hX.out k hkt]at this;exact this
         have cY:Hid (∀wx,(fun wx=>Blk wx q (Vs Y) 203∧Blk wx w.heap.size (Vs X) 203∧Below w.heap.size w wx) wx→wx.cell? ⟨q,k,none⟩=some (.int .u32 (V (Y.getD k 0)))):=fun wx h=>bp h.1 k (by omega)
         generalize Cc.zC (fun i=>Y.getD i 0+W i) k=o at lo HO⊢;generalize Y.getD k 0=gy at cY HO;generalize W k=gx at cX HO;rw[show gy+gx=gx+gy from BitVec.add_comm _ _]at HO;have HB:Hid (Rv 75 #[.int .i64 (V (gx+gy)),.int .i64 4] (.string ⟨(Fd.lo (gx+gy).toNat 4).toArray⟩)):=fun wx=>bP (V (gx+gy)) 4 (gx+gy).toNat 4 rfl rfl (by have:=(gx+gy).isLt;omega) (by omega) wx
         have ew:IntKind.i64.wrap (V (gx+gy))=V (gx+gy):=by have h1:=o9 (gx+gy);have h2:=pa (gx+gy);rw[IntKind.wrap_i64];omega
         have lB:=Fd.tV (gx+gy).toNat 4;generalize Fd.lo (gx+gy).toNat 4=B at HB HO lB;have Cs:Op.stringOp .add ⟨o.toArray⟩ ⟨B.toArray⟩=pure (.string ⟨(o++B).toArray⟩):=by
          rw[aH _ _ (by show o.toArray.size+B.toArray.size≤_;rw[List.size_toArray,List.size_toArray];omega)];exact congrArg (fun z=>pure (Value.string z)) (ByteArray.mk_append_mk o B)
         have hS0:(fun wx=>Blk wx q (Vs Y) 203∧Blk wx w.heap.size (Vs X) 203∧Below w.heap.size w wx) wr:=⟨hb2,hb3,bel⟩;clear hb2 hb3 bel;go_wp2_with fail;refine ai (S:=(fun wx=>Blk wx q (Vs Y) 203∧Blk wx w.heap.size (Vs X) 203∧Below w.heap.size w wx)) (ls:= []) (by kernel_rfl) ?_;have hS:(fun wx=>Blk wx q (Vs Y) 203∧Blk wx w.heap.size (Vs X) 203∧Below w.heap.size w wx) wr.drew:=⟨hS0.1.drew,hS0.2.1.drew,hS0.2.2.drew⟩;clear hS0;generalize wr.drew=wd at hS⊢;refine aa 0 91 (v:= .string ⟨o.toArray⟩) hS ?_ ?_
         ·exact fun wx _=>rfl
         refine aa 1 92 (v:= .int .i64 k) hS ?_ ?_
         ·exact fun wx _=>rfl
         refine ac 2 93 (v:= .pointer (some ⟨w.heap.size,k,none⟩)) hS ?_;simp only[qQ];refine aa 3 94 (v:= .int .u32 (V gx)) hS ?_ ?_
         ·(intro wx BM;have cc:=cX.out wx BM;clear BM;go_simp;try (with_reducible rfl))
         refine aa 4 95 (v:= .int .i64 k) hS ?_ ?_
         ·exact fun wx _=>rfl
         refine ac 5 96 (v:= .pointer (some ⟨q,k,none⟩)) hS ?_;simp only[qQ];refine aa 6 97 (v:= .int .u32 (V gy)) hS ?_ ?_
         ·(intro wx BM;have cc:=cY.out wx BM;clear BM;go_simp;try (with_reducible rfl))
         refine aa 7 98 (v:= .int .u32 (V (gx+gy))) hS ?_ ?_
         ·(intro wx BM;clear BM;go_simp;first|rw[eO]|rw[eA])
         refine ac 8 99 (v:= .int .i64 (V (gx+gy))) hS ?_;simp only[qQ];refine aj 9 fun K hK=> ?_
         go_simp;go_wp2_with (go_at_call 75;refine gv HB fun wf k0=> ?_);have hSk:(fun wx=>Blk wx q (Vs Y) 203∧Blk wx w.heap.size (Vs X) 203∧Below w.heap.size w wx) wf:=⟨hS.1.keep k0,hS.2.1.keep k0,hS.2.2.trans (k0.mono hS.2.2.size)⟩;refine hK.out _ _ hSk ?_;try simp only[qQ]
         clear hK K k0 hS;have hS:=hSk;clear hSk;refine ac 10 101 (v:= .string ⟨(o++B).toArray⟩) hS ?_;refine aa 11 14 (v:= .string ⟨(o++B).toArray⟩) hS ?_ ?_
         ·exact fun wx _=>rfl
         try simp only[qQ]
         refine ak ?_;go_wp2_with fail;go_roundw
         case rel=>
          refine⟨k+1,by omega,by go_num,?_,hS.1,hS.2.1,hS.2.2⟩;rw[HO.out]
         case measure=>simp[intOf];omega
        ·have hk16':k=16:=by omega
         subst hk16';rw[←HR.out];go_wp2;go_ret;exact⟨rfl,bel⟩
theorem lv(key BJ data:ByteArray)(w:World)(hk:key.size=32)(hn:BJ.size=12)(hd:data.size≤1000000):
  Rw 149 #[.string key,.string BJ,.string data] w (.string (Cc.ue key BJ data)):=by
 obtain⟨cap,w1,hcv,ho,BI⟩:=bytesOf data w.heap.size w nR;replace ho:=ho.at;have HB:Hid (∀(x:Nat) (wx:World),x≤1000000→Rw 196 #[.string key,.int .i64 x,.string BJ] wx (.string ⟨(Cc.blk key (BitVec.ofNat 32 x) BJ).toArray⟩)):=fun x wx h=>lz key BJ x wx hk hn h
 have HT:Hid (Cc.ue key BJ data=⟨(Cc.vh (Cc.ks key BJ) data.data.toList data.size).toArray⟩):=by
  have:Cc.ue key BJ data=⟨(Cc.vh (Cc.ks key BJ) data.data.toList data.size).toArray⟩:=rfl;exact this
 have hlen:data.data.toList.length=data.size:=by simp
 generalize Cc.ue key BJ data=R at HT⊢;generalize data.data.toList=l at HT ho hlen;go_enter Tryz.func149,Tryz.ntmps149;go_wp2_with fail;clear hcv;go_loopw [8] (fun i wr=> ∃j:Nat,64*j<data.size+64∧i= .int .i64 (64*j:Nat)∧OwnR wr w.heap.size cap (Cc.vh (Cc.ks key BJ) l (64*j))∧Below w.heap.size w wr) (fun i _=>data.size+64 - (intOf i).toNat)
 case atStart=>exact⟨0,by omega,rfl,by rw[Nat.mul_zero,Cc.zo];exact ho,BI⟩
 case round=>
  clear ho BI w1;obtain⟨j,hj,rfl,ho,BI⟩:=hrel;by_cases hlt:64*j<data.size
  ·have hlt6:w.heap.size<wr.heap.size:=ho.lt;have hj6:j+1≤1000000:=by omega
   generalize hat:64*j=at0 at hj hlt ho;have HAT:Hid (64*j=at0):=hat;have hc:1+(at0:Int)/64=(j:Int)+1:=by omega
   have HBj:Hid (Rv 196 #[.string key,.int .i64 ((j:Int)+1),.string BJ] (.string ⟨(Cc.blk key (BitVec.ofNat 32 (j+1)) BJ).toArray⟩)):=fun wx=>HB.out (j+1) wx hj6
   clear hat;go_wp2_with fail;refine gv HBj fun w2 hb2=> ?_
   have hlM:(Cc.blk key (BitVec.ofNat 32 (j+1)) BJ).length=64:=Cc.xf _ _ _;have HM:Hid (∀i,i<64→(Cc.blk key (BitVec.ofNat 32 (j+1)) BJ).getD i 0=Cc.ks key BJ (at0+i)):=fun i hi=>by
    unfold Cc.ks;rw[show (at0+i)/64=j by have:=HAT.out;omega,show (at0+i)%64=i by have:=HAT.out;omega]
   generalize Cc.blk key (BitVec.ofNat 32 (j+1)) BJ=M at hlM HM⊢;have ho2:=ho.below hb2 hlt6;have BQ:Below w.heap.size w w2:=BI.trans (hb2.mono BI.size);clear ho BI hb2 hc;obtain⟨m,hm0,hm1,hm2,hm3⟩: ∃m:Nat,0<m∧m≤64∧at0+m≤data.size∧(m=64∨at0+m=data.size):=by
    by_cases h:at0+64≤data.size
    ·exact⟨64,by omega,by omega,by omega,.inl rfl⟩
    ·exact⟨data.size - at0,by omega,by omega,by omega,.inr (by omega)⟩
   have hsM:(⟨M.toArray⟩:ByteArray).size=64:=by show M.toArray.size=64;rw[List.size_toArray,hlM]
   have HX:Hid (∀i,i<64→byt ⟨M.toArray⟩ i=((Cc.ks key BJ (at0+i)).toNat:Int)):=fun i hi=>by rw[←HM.out i hi];rfl
   generalize (⟨M.toArray⟩:ByteArray)=S at hsM HX⊢;go_wp2_with fail;go_loopw [10] (fun i wr=> ∃k:Nat,k≤m∧i= .int .i64 (at0+k:Nat)∧OwnR wr w.heap.size cap (Cc.vh (Cc.ks key BJ) l (at0+k))∧Below w.heap.size w wr) (fun i _=>at0+m - (intOf i).toNat)
   case atStart=>exact⟨0,Nat.zero_le _,rfl,ho2,BQ⟩
   case round=>
    clear ho2 BQ;obtain⟨k,hkm,rfl,ho,BI⟩:=hrel;generalize hik:at0+k=i at ho;by_cases hlk:k<m
    ·have h1:=ho.cell i (by rw[Cc.uF];omega);rw[Cc.z7 _ _ _ (by omega)]at h1;have h2:=ho.frozen i (by rw[Cc.uF];omega);have hix:=bl S (k:Int) k (by omega) (by omega) (by omega);rw[HX.out k (by omega),hik]at hix;have HS:Hid ((Cc.vh (Cc.ks key BJ) l i).set i (l.getD i 0^^^Cc.ks key BJ i)=Cc.vh (Cc.ks key BJ) l (i+1)):=Cc.zM _ _ _ (by omega);generalize l.getD i 0=x at h1 HS;generalize Cc.ks key BJ i=y at hix HS;have i1:decide ((i:Int)<(at0:Int)+64)=true:=decide_eq_true (by omega);have i2:decide ((i:Int)<(data.size:Int))=true:=decide_eq_true (by omega);have i3:IntKind.i64.wrap ((i:Int) - (at0:Int))=(k:Int):=by rw[IntKind.wrap_i64];omega
     have i4:(i:Int)<(data.size:Int):=by omega
     have i6:(0:Int)≤(i:Int):=by omega
     replace hik:Hid (at0+k=i):=hik;go_wp2_with fail;go_region
     all_goals
      go_wp2;go_roundw
      case rel=>exact⟨k+1,by omega,by have:=hik.out;rw[show at0+(k+1)=i+1 by omega];go_num,by have:=hik.out;rw[show at0+(k+1)=i+1 by omega,dF,←show _=_ from HS.out];exact(ho.set _ _).drew,(BI.setCell nR _).drew⟩
      case measure=>have:=hik.out;simp[intOf];omega
    ·have hkm':k=m:=by omega
     subst hkm';have Ct:Hid (OwnR wr w.heap.size cap (Cc.vh (Cc.ks key BJ) l (64*(j+1)))):=by
      have h0:=HAT.out;show OwnR wr w.heap.size cap (Cc.vh (Cc.ks key BJ) l (64*(j+1)))
      rcases hm3 with h|h
      ·rw[show 64*(j+1)=i by omega];exact ho
      ·rw[cD _ _ (64*(j+1)) (by omega),←cD _ _ i (by omega)];exact ho
     have hb64:Hid (64*(j+1)<data.size+64):=(by have h0:=HAT.out;omega:64*(j+1)<data.size+64);by_cases h64:i<at0+64
     ·have i1:decide ((i:Int)<(at0:Int)+64)=true:=decide_eq_true (by omega);have i2:decide ((i:Int)<(data.size:Int))=false:=decide_eq_false (by omega);have i2n:decide (i<data.size)=false:=decide_eq_false (by omega);have i2m: ¬i<data.size:=by omega
      clear ho hm3 hik h64;go_wp2;go_roundw
      case rel=>exact⟨j+1,hb64.out,aP (by have:=HAT.out;omega),Ct.out,BI⟩
      case measure=>simp[intOf];have:=HAT.out;omega
     ·have i1:decide ((i:Int)<(at0:Int)+64)=false:=decide_eq_false (by omega);clear ho hm3 hik h64;go_wp2;go_roundw
      case rel=>exact⟨j+1,hb64.out,aP (by have:=HAT.out;omega),Ct.out,BI⟩
      case measure=>simp[intOf];have:=HAT.out;omega
  ·rw[cD _ _ (64*j) (by omega),hlen]at ho;have hso:=aY (n:=data.size) ho (by rw[Cc.uF,hlen]);go_wp2;go_ret;exact⟨by rw[show R=_ from HT.out];rfl,BI⟩
end Go.Proofs.YtclpbaokadfhhaaGreatDoor
