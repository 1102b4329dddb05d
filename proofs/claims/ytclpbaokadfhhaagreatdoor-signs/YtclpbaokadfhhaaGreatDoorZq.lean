import Derived.Test.YtclpbaokadfhhaaGreatDoorZp
import Derived.Test.YtclpbaokadfhhaaGreatDoorXl
set_option maxRecDepth 100000
set_option maxHeartbeats 6000000
namespace Go.Proofs.YtclpbaokadfhhaaGreatDoor
open Go.RowKit
namespace Cc
def tagged(BK closed:ByteArray):ByteArray:=fill BK++fill closed++ug BK++ug closed
theorem zp(BK closed:ByteArray):(tagged BK closed).size%16=0:=by
 have h1:=fill_mod BK;have h2:=fill_mod closed;unfold tagged;rw[ByteArray.size_append,ByteArray.size_append,ByteArray.size_append,xe,xe];omega
theorem ze(BK closed:ByteArray):(tagged BK closed).size≤BK.size+closed.size+48:=by
 have h1:=xF BK;have h2:=xF closed;unfold tagged;rw[ByteArray.size_append,ByteArray.size_append,ByteArray.size_append,xe,xe,h1,h2];unfold t6;omega
def sealL(key BJ BK closed:ByteArray):List UInt8:=tag (fun i=>(blk key 0 BJ).getD i 0) (tagged BK closed)
def uW(key BJ BK closed:ByteArray):ByteArray:=⟨(sealL key BJ BK closed).toArray⟩
theorem sealL_length(key BJ BK closed:ByteArray):(sealL key BJ BK closed).length=16:=yj _ _
theorem yl(key BJ BK closed:ByteArray):(uW key BJ BK closed).size=16:=by
 show(sealL key BJ BK closed).toArray.size=16
 simp[sealL_length]
end Cc
structure Ctx (w0:World) (M:List UInt8) (p:Nat) (wx:World):Prop where
 row:Blk wx p (Bs M) 176
 below:Below w0.heap.size w0 wx
theorem Ctx.call{w0 wx wy:World}{M:List UInt8}{p:Nat}(h:Ctx w0 M p wx)(k:Below wx.heap.size wx wy):Ctx w0 M p wy:=⟨Blk.keep h.row k,Below.trans h.below (Below.mono k h.below.size)⟩
theorem Ctx.alloc{w0 wx:World}{M:List UInt8}{p:Nat}(h:Ctx w0 M p wx)(o:Obj):Ctx w0 M p (wx.alloc o):=⟨h.row.alloc o,h.below.alloc h.below.size o⟩
theorem Ctx.drew{w0 wx:World}{M:List UInt8}{p:Nat}(h:Ctx w0 M p wx):Ctx w0 M p wx.drew:=⟨h.row,h.below.drew⟩
theorem Ctx.cells{w0 wx:World}{M:List UInt8}{p:Nat}(h:Ctx w0 M p wx)(hl:M.length=64): ∀i,i<32→wx.cell? ⟨p,0+i,none⟩=some (.int .u8 ((M.getD i 0).toNat:Int)):=fun i hi=>by
 rw[Nat.zero_add,h.row.cell,bU _ _ (by omega)]
structure Nw (w0:World) (q:Nat) (wx:World):Prop where
 row:Blk wx q (Bs (ag 16)) 179
 le:w0.heap.size≤q
theorem Nw.made{w0 wx wy:World}{M:List UInt8}{p:Nat}(h:Ctx w0 M p wx)(k:Below (wx.alloc (.cells (Bs (ag 16)) 179)).heap.size (wx.alloc (.cells (Bs (ag 16)) 179)) wy):Nw w0 wx.heap.size wy:=
 ⟨Blk.keep (w:=wx.alloc (.cells (Bs (ag 16)) 179)) (Blk.new wx (Bs (ag 16)) 179) k,h.below.size⟩
theorem Nw.call{w0 wx wy:World}{q:Nat}(h:Nw w0 q wx)(k:Below wx.heap.size wx wy):Nw w0 q wy:=⟨h.row.keep k,h.le⟩
theorem nL(w:World):(Instr.alloc 179 true (.tuple #[])).run Tryz.prog w= .ok (.pointer (some ⟨w.heap.size,0,none⟩)) (w.alloc (.cells (Bs (ag 16)) 179)):=by
 have hz:=eh;go_simp
theorem cl{ops:Array Oper}{o:Oper}{a:Act}{w:World}{K:Act→World→Prop}{Q:Exit→Act→World→Prop}{E:Prop}(hg:o.guard=none)(hop:o.op=Op.alloc 179)
  (hK:K (a.put o.dst (.pointer (some ⟨w.heap.size,0,none⟩))) (w.alloc (.cells (Bs (ag 16)) 179))):
  if Region.wanted o (yielded ops a.tmps)=true then Oper.wp Tryz.prog o a w K Q else E:=by
 have hw:Region.wanted o (yielded ops a.tmps)=true:=by simp[Region.wanted,hg]
 rw[if_pos hw];unfold Oper.wp;rw[show (execOp a.eval o).run Tryz.prog w= .ok (.value (.pointer (some ⟨w.heap.size,0,none⟩))) (w.alloc (.cells (Bs (ag 16)) 179)) by
  simp[execOp,hop,nL,Result.andThen]]
 exact hK
theorem aH(x y:ByteArray)(h:x.size+y.size≤9223372036854775807):Op.stringOp .add x y=pure (.string (x++y)):=by
 unfold Op.stringOp;have: ¬((x.size+y.size:Nat):Int)>IntKind.i64.max:=by show¬((x.size+y.size:Nat):Int)>9223372036854775807;omega
 simp only[this,if_false]
theorem jD(key BJ BK closed:ByteArray)(w:World)(hk:key.size=32)(hn:BJ.size=12)(ht:BK.size≤100000)(hc:closed.size≤100000):
  Rw 120 #[.string key,.string BJ,.string BK,.string closed] w (.string (Cc.uW key BJ BK closed)):=by
 have hz:=zero64;have hz2:=eh;have HBl:Hid (Rv 178 #[.string key,.int .u32 0,.string BJ] (.agg (Bs (Cc.blk key 0 BJ)))):=fun wx=>ja key BJ 0 wx hk hn
 have hlM:(Cc.blk key 0 BJ).length=64:=Cc.xf _ _ _;have HR:Hid (Cc.uW key BJ BK closed=⟨(Cc.tag (fun i=>(Cc.blk key 0 BJ).getD i 0) (Cc.fill BK++Cc.fill closed++Cc.ug BK++Cc.ug closed)).toArray⟩):=by
  have:Cc.uW key BJ BK closed=⟨(Cc.tag (fun i=>(Cc.blk key 0 BJ).getD i 0) (Cc.fill BK++Cc.fill closed++Cc.ug BK++Cc.ug closed)).toArray⟩:=rfl;exact this
 generalize Cc.uW key BJ BK closed=R at HR⊢;generalize Cc.blk key 0 BJ=M at hlM HBl HR;have HF:Hid (∀(s:ByteArray) (wx:World),s.size≤100000→Rw 180 #[.string s] wx (.string (Cc.fill s))):=fun s wx h=>oU s wx (by omega)
 have HC:Hid (∀(s:ByteArray) (wx:World),s.size≤100000→Rw 181 #[.string s] wx (.string (Cc.ug s))):=fun s wx h=>nF s wx (by omega)
 have HT:Hid (∀(p:Nat) (wx:World),(∀i,i<32→wx.cell? ⟨p,0+i,none⟩=some (.int .u8 ((M.getD i 0).toNat:Int)))→Rw 179 #[.slice (some ⟨p,0,none⟩) 32 64,.string (Cc.fill BK++Cc.fill closed++Cc.ug BK++Cc.ug closed)] wx (.agg (Bs (Cc.tag (fun i=>M.getD i 0) (Cc.fill BK++Cc.fill closed++Cc.ug BK++Cc.ug closed))))):=fun p wx h=>
  pU p 0 64 (fun i=>M.getD i 0) _ wx (by omega) (by omega) (by have:=Cc.ze BK closed;unfold Cc.tagged at this;omega) (Cc.zp BK closed) h
 have hlG:(Cc.tag (fun i=>M.getD i 0) (Cc.fill BK++Cc.fill closed++Cc.ug BK++Cc.ug closed)).length=16:=Cc.yj _ _;generalize Cc.tag (fun i=>M.getD i 0) (Cc.fill BK++Cc.fill closed++Cc.ug BK++Cc.ug closed)=G at HR HT hlG;have z1:(Cc.fill BK).size≤200000:=by rw[Cc.xF];unfold Cc.t6;omega
 have z2:(Cc.fill closed).size≤200000:=by rw[Cc.xF];unfold Cc.t6;omega
 have z3:(Cc.ug BK).size=8:=Cc.xe _;have z4:(Cc.ug closed).size=8:=Cc.xe _;have y1:(Cc.fill BK++Cc.fill closed).size≤400000:=by rw[ByteArray.size_append];omega
 have y2:(Cc.fill BK++Cc.fill closed++Cc.ug BK).size≤400008:=by rw[ByteArray.size_append];omega
 have hsG:=Bz hlG;have o1:=aH (Cc.fill BK) (Cc.fill closed) (by omega);have o2:=aH (Cc.fill BK++Cc.fill closed) (Cc.ug BK) (by omega);have o3:=aH (Cc.fill BK++Cc.fill closed++Cc.ug BK) (Cc.ug closed) (by omega);generalize Cc.fill BK++Cc.fill closed++Cc.ug BK++Cc.ug closed=g3 at o3 HT;generalize Cc.fill BK++Cc.fill closed++Cc.ug BK=g2 at o2 o3;generalize Cc.fill BK++Cc.fill closed=g1 at o1 o2;clear z1 z2 z3 z4 y1 y2;generalize Cc.fill=F at o1 HF;generalize Cc.ug=C at o2 o3 HC;go_enter Tryz.func120,Tryz.ntmps120;go_wp2_with fail;refine gv HBl fun w1 b1=> ?_
 have hsM:=Bz hlM;have hst:=eU w1 (Bs (ag 64)) 176 M (by rw[hlM,ce];rfl);go_wp2_with fail;clear hst;have x1:Ctx w M w1.heap.size (w1.alloc (.cells (Bs M) 176)):=⟨Blk.new w1 _ _,b1.alloc b1.size _⟩;generalize w1.alloc (.cells (Bs M) 176)=v1 at x1⊢;generalize w1.heap.size=p at x1⊢;clear b1 w1;replace x1:Ctx w M p v1.drew:=x1.drew;clear HBl hz;refine wp_region_any (by kernel_rfl) ?_;change wpAny _ _ _ _ _ _ _ (World.drew _);generalize World.drew v1=vd at x1⊢;refine aV 0 ?_;refine aV 1 ?_;refine aV 3 ?_;refine aV 6 ?_;refine aV 9 ?_;refine wpAny_ready (rs:= [2,13]) (by kernel_rfl) (by simp) ?_;refine AllReady.cons rfl (fun K hK=> ?_) (AllReady.cons rfl (fun K hK=> ?_) AllReady.nil)
 ·skip;go_simp;go_wp2_with (go_at_call 180;refine(HF.out _ _ ?_).mono ?_;exact ht;rintro e w2 ⟨rfl,k2⟩);have x2:Ctx w M p w2:=Ctx.call x1 k2;try (refine hK _ _ ?_;clear hK K)
  refine wpAny_ready (rs:= [4,13]) (by kernel_rfl) (by simp) ?_;refine AllReady.cons rfl (fun K hK=> ?_) (AllReady.cons rfl (fun K hK=> ?_) AllReady.nil)
  ·skip;go_simp;go_wp2_with (go_at_call 180;refine(HF.out _ _ ?_).mono ?_;exact hc;rintro e w3 ⟨rfl,k3⟩);have x3:Ctx w M p w3:=Ctx.call x2 k3;try (refine hK _ _ ?_;clear hK K)
   refine aV 5 ?_;refine wpAny_ready (rs:= [7,13]) (by kernel_rfl) (by simp) ?_;refine AllReady.cons rfl (fun K hK=> ?_) (AllReady.cons rfl (fun K hK=> ?_) AllReady.nil)
   ·skip;go_simp;go_wp2_with (go_at_call 181;refine(HC.out _ _ ?_).mono ?_;exact ht;rintro e w4 ⟨rfl,k4⟩);have x4:Ctx w M p w4:=Ctx.call x3 k4;try (refine hK _ _ ?_;clear hK K)
    refine aV 8 ?_;refine wpAny_ready (rs:= [10,13]) (by kernel_rfl) (by simp) ?_;refine AllReady.cons rfl (fun K hK=> ?_) (AllReady.cons rfl (fun K hK=> ?_) AllReady.nil)
    ·skip;go_simp;go_wp2_with (go_at_call 181;refine(HC.out _ _ ?_).mono ?_;exact hc;rintro e w5 ⟨rfl,k5⟩);have x5:Ctx w M p w5:=Ctx.call x4 k5;try (refine hK _ _ ?_;clear hK K)
     refine aV 11 ?_;refine wpAny_ready (rs:= [12,13]) (by kernel_rfl) (by simp) ?_;refine AllReady.cons rfl (fun K hK=> ?_) (AllReady.cons rfl (fun K hK=> ?_) AllReady.nil)
     ·skip;go_simp;go_wp2_with (go_at_call 179;refine(HT.out _ _ ?_).mono ?_;exact Ctx.cells x5 hlM;rintro e w6 ⟨rfl,k6⟩);have x6:Ctx w M p w6:=Ctx.call x5 k6;try (refine hK _ _ ?_;clear hK K)
      have hst:=eU w6 (Bs (ag 16)) 179 G (by rw[hlG];rfl);refine wpAny_ready (rs:= [13]) (by kernel_rfl) (by simp) ?_;refine AllReady.cons rfl (fun K hK=> ?_) AllReady.nil;refine cl rfl rfl ?_;go_simp;refine hK _ _ ?_;clear hK K;refine wpAny_ready (rs:= [14]) (by kernel_rfl) (by simp) ?_;refine AllReady.cons rfl (fun K hK=> ?_) AllReady.nil;go_simp;refine hK _ _ ?_;clear hK K;refine wpAny_done (by kernel_rfl) ?_ _;have hso:=aQ (cap:=16) (Blk.new w6 (Bs G) 179) 16 hlG.symm;clear hst;go_wp2;go_ret;exact⟨by rw[show R=_ from HR.out];rfl,x6.below.alloc x6.below.size _⟩
     ·refine cl rfl rfl ?_;go_simp;refine hK _ _ ?_;clear hK K;as_aux_lemma=>
       refine wpAny_ready (rs:= [12]) (by kernel_rfl) (by simp) ?_;refine AllReady.cons rfl (fun K hK=> ?_) AllReady.nil;go_simp;go_wp2_with (go_at_call 179;refine(HT.out _ _ ?_).mono ?_;exact Ctx.cells (Ctx.alloc x5 _) hlM;rintro e w6 ⟨rfl,k6⟩);have x6:Ctx w M p w6:=Ctx.call (Ctx.alloc x5 _) k6;have q6:=Nw.made x5 k6;try (refine hK _ _ ?_;clear hK K)
       have hst:=cg (l:=G) q6.row (by rw[hlG];rfl);refine wpAny_ready (rs:= [14]) (by kernel_rfl) (by simp) ?_;refine AllReady.cons rfl (fun K hK=> ?_) AllReady.nil;go_simp;refine hK _ _ ?_;clear hK K;refine wpAny_done (by kernel_rfl) ?_ _;have hso:=aQ (cap:=16) (q6.row.row (Bs G)) 16 hlG.symm;clear hst;go_wp2;go_ret;exact⟨by rw[show R=_ from HR.out];rfl,below_setRow x6.below q6.le _⟩
    ·refine cl rfl rfl ?_;go_simp;refine hK _ _ ?_;clear hK K;as_aux_lemma=>
      refine wpAny_ready (rs:= [10]) (by kernel_rfl) (by simp) ?_;refine AllReady.cons rfl (fun K hK=> ?_) AllReady.nil;go_simp;go_wp2_with (go_at_call 181;refine(HC.out _ _ ?_).mono ?_;exact hc;rintro e w5 ⟨rfl,k5⟩);have x5:Ctx w M p w5:=Ctx.call (Ctx.alloc x4 _) k5;have q5:=Nw.made x4 k5;try (refine hK _ _ ?_;clear hK K)
      refine aV 11 ?_;refine wpAny_ready (rs:= [12]) (by kernel_rfl) (by simp) ?_;refine AllReady.cons rfl (fun K hK=> ?_) AllReady.nil;go_simp;go_wp2_with (go_at_call 179;refine(HT.out _ _ ?_).mono ?_;exact Ctx.cells x5 hlM;rintro e w6 ⟨rfl,k6⟩);have x6:Ctx w M p w6:=Ctx.call x5 k6;have q6:=Nw.call q5 k6;try (refine hK _ _ ?_;clear hK K)
      have hst:=cg (l:=G) q6.row (by rw[hlG];rfl);refine wpAny_ready (rs:= [14]) (by kernel_rfl) (by simp) ?_;refine AllReady.cons rfl (fun K hK=> ?_) AllReady.nil;go_simp;refine hK _ _ ?_;clear hK K;refine wpAny_done (by kernel_rfl) ?_ _;have hso:=aQ (cap:=16) (q6.row.row (Bs G)) 16 hlG.symm;clear hst;go_wp2;go_ret;exact⟨by rw[show R=_ from HR.out];rfl,below_setRow x6.below q6.le _⟩
   ·refine cl rfl rfl ?_;go_simp;refine hK _ _ ?_;clear hK K;as_aux_lemma=>
     refine wpAny_ready (rs:= [7]) (by kernel_rfl) (by simp) ?_;refine AllReady.cons rfl (fun K hK=> ?_) AllReady.nil;go_simp;go_wp2_with (go_at_call 181;refine(HC.out _ _ ?_).mono ?_;exact ht;rintro e w4 ⟨rfl,k4⟩);have x4:Ctx w M p w4:=Ctx.call (Ctx.alloc x3 _) k4;have q4:=Nw.made x3 k4;try (refine hK _ _ ?_;clear hK K)
     refine aV 8 ?_;refine wpAny_ready (rs:= [10]) (by kernel_rfl) (by simp) ?_;refine AllReady.cons rfl (fun K hK=> ?_) AllReady.nil;go_simp;go_wp2_with (go_at_call 181;refine(HC.out _ _ ?_).mono ?_;exact hc;rintro e w5 ⟨rfl,k5⟩);have x5:Ctx w M p w5:=Ctx.call x4 k5;have q5:=Nw.call q4 k5;try (refine hK _ _ ?_;clear hK K)
     refine aV 11 ?_;refine wpAny_ready (rs:= [12]) (by kernel_rfl) (by simp) ?_;refine AllReady.cons rfl (fun K hK=> ?_) AllReady.nil;go_simp;go_wp2_with (go_at_call 179;refine(HT.out _ _ ?_).mono ?_;exact Ctx.cells x5 hlM;rintro e w6 ⟨rfl,k6⟩);have x6:Ctx w M p w6:=Ctx.call x5 k6;have q6:=Nw.call q5 k6;try (refine hK _ _ ?_;clear hK K)
     have hst:=cg (l:=G) q6.row (by rw[hlG];rfl);refine wpAny_ready (rs:= [14]) (by kernel_rfl) (by simp) ?_;refine AllReady.cons rfl (fun K hK=> ?_) AllReady.nil;go_simp;refine hK _ _ ?_;clear hK K;refine wpAny_done (by kernel_rfl) ?_ _;have hso:=aQ (cap:=16) (q6.row.row (Bs G)) 16 hlG.symm;clear hst;go_wp2;go_ret;exact⟨by rw[show R=_ from HR.out];rfl,below_setRow x6.below q6.le _⟩
  ·refine cl rfl rfl ?_;go_simp;refine hK _ _ ?_;clear hK K;as_aux_lemma=>
    refine wpAny_ready (rs:= [4]) (by kernel_rfl) (by simp) ?_;refine AllReady.cons rfl (fun K hK=> ?_) AllReady.nil;go_simp;go_wp2_with (go_at_call 180;refine(HF.out _ _ ?_).mono ?_;exact hc;rintro e w3 ⟨rfl,k3⟩);have x3:Ctx w M p w3:=Ctx.call (Ctx.alloc x2 _) k3;have q3:=Nw.made x2 k3;try (refine hK _ _ ?_;clear hK K)
    refine aV 5 ?_;refine wpAny_ready (rs:= [7]) (by kernel_rfl) (by simp) ?_;refine AllReady.cons rfl (fun K hK=> ?_) AllReady.nil;go_simp;go_wp2_with (go_at_call 181;refine(HC.out _ _ ?_).mono ?_;exact ht;rintro e w4 ⟨rfl,k4⟩);have x4:Ctx w M p w4:=Ctx.call x3 k4;have q4:=Nw.call q3 k4;try (refine hK _ _ ?_;clear hK K)
    refine aV 8 ?_;refine wpAny_ready (rs:= [10]) (by kernel_rfl) (by simp) ?_;refine AllReady.cons rfl (fun K hK=> ?_) AllReady.nil;go_simp;go_wp2_with (go_at_call 181;refine(HC.out _ _ ?_).mono ?_;exact hc;rintro e w5 ⟨rfl,k5⟩);have x5:Ctx w M p w5:=Ctx.call x4 k5;have q5:=Nw.call q4 k5;try (refine hK _ _ ?_;clear hK K)
    refine aV 11 ?_;refine wpAny_ready (rs:= [12]) (by kernel_rfl) (by simp) ?_;refine AllReady.cons rfl (fun K hK=> ?_) AllReady.nil;go_simp;go_wp2_with (go_at_call 179;refine(HT.out _ _ ?_).mono ?_;exact Ctx.cells x5 hlM;rintro e w6 ⟨rfl,k6⟩);have x6:Ctx w M p w6:=Ctx.call x5 k6;have q6:=Nw.call q5 k6;try (refine hK _ _ ?_;clear hK K)
    have hst:=cg (l:=G) q6.row (by rw[hlG];rfl);refine wpAny_ready (rs:= [14]) (by kernel_rfl) (by simp) ?_;refine AllReady.cons rfl (fun K hK=> ?_) AllReady.nil;go_simp;refine hK _ _ ?_;clear hK K;refine wpAny_done (by kernel_rfl) ?_ _;have hso:=aQ (cap:=16) (q6.row.row (Bs G)) 16 hlG.symm;clear hst;go_wp2;go_ret;exact⟨by rw[show R=_ from HR.out];rfl,below_setRow x6.below q6.le _⟩
 ·refine cl rfl rfl ?_;go_simp;refine hK _ _ ?_;clear hK K;as_aux_lemma=>
   refine wpAny_ready (rs:= [2]) (by kernel_rfl) (by simp) ?_;refine AllReady.cons rfl (fun K hK=> ?_) AllReady.nil;go_simp;go_wp2_with (go_at_call 180;refine(HF.out _ _ ?_).mono ?_;exact ht;rintro e w2 ⟨rfl,k2⟩);have x2:Ctx w M p w2:=Ctx.call (Ctx.alloc x1 _) k2;have q2:=Nw.made x1 k2;try (refine hK _ _ ?_;clear hK K)
   refine wpAny_ready (rs:= [4]) (by kernel_rfl) (by simp) ?_;refine AllReady.cons rfl (fun K hK=> ?_) AllReady.nil;go_simp;go_wp2_with (go_at_call 180;refine(HF.out _ _ ?_).mono ?_;exact hc;rintro e w3 ⟨rfl,k3⟩);have x3:Ctx w M p w3:=Ctx.call x2 k3;have q3:=Nw.call q2 k3;try (refine hK _ _ ?_;clear hK K)
   refine aV 5 ?_;refine wpAny_ready (rs:= [7]) (by kernel_rfl) (by simp) ?_;refine AllReady.cons rfl (fun K hK=> ?_) AllReady.nil;go_simp;go_wp2_with (go_at_call 181;refine(HC.out _ _ ?_).mono ?_;exact ht;rintro e w4 ⟨rfl,k4⟩);have x4:Ctx w M p w4:=Ctx.call x3 k4;have q4:=Nw.call q3 k4;try (refine hK _ _ ?_;clear hK K)
   refine aV 8 ?_;refine wpAny_ready (rs:= [10]) (by kernel_rfl) (by simp) ?_;refine AllReady.cons rfl (fun K hK=> ?_) AllReady.nil;go_simp;go_wp2_with (go_at_call 181;refine(HC.out _ _ ?_).mono ?_;exact hc;rintro e w5 ⟨rfl,k5⟩);have x5:Ctx w M p w5:=Ctx.call x4 k5;have q5:=Nw.call q4 k5;try (refine hK _ _ ?_;clear hK K)
   refine aV 11 ?_;refine wpAny_ready (rs:= [12]) (by kernel_rfl) (by simp) ?_;refine AllReady.cons rfl (fun K hK=> ?_) AllReady.nil;go_simp;go_wp2_with (go_at_call 179;refine(HT.out _ _ ?_).mono ?_;exact Ctx.cells x5 hlM;rintro e w6 ⟨rfl,k6⟩);have x6:Ctx w M p w6:=Ctx.call x5 k6;have q6:=Nw.call q5 k6;try (refine hK _ _ ?_;clear hK K)
   have hst:=cg (l:=G) q6.row (by rw[hlG];rfl);refine wpAny_ready (rs:= [14]) (by kernel_rfl) (by simp) ?_;refine AllReady.cons rfl (fun K hK=> ?_) AllReady.nil;go_simp;refine hK _ _ ?_;clear hK K;refine wpAny_done (by kernel_rfl) ?_ _;have hso:=aQ (cap:=16) (q6.row.row (Bs G)) 16 hlG.symm;clear hst;go_wp2;go_ret;exact⟨by rw[show R=_ from HR.out];rfl,below_setRow x6.below q6.le _⟩
namespace Cc
def wA(key BJ BK data:ByteArray):ByteArray:=ue key BJ data++uW key BJ BK (ue key BJ data)
theorem A6(key BJ BK data:ByteArray):(wA key BJ BK data).size=data.size+16:=by
 unfold wA;rw[ByteArray.size_append,zs,yl]
def ww(closed:ByteArray):ByteArray:=closed.extract 0 (closed.size - 16)
def AF(closed:ByteArray):ByteArray:=closed.extract (closed.size - 16) closed.size
theorem zO(closed:ByteArray):(ww closed).size=closed.size - 16:=by unfold ww;simp
theorem tail_size(closed:ByteArray)(h:16≤closed.size):(AF closed).size=16:=by unfold AF;simp;omega
def vk(key BJ BK closed:ByteArray):Bool:=fH (AF closed) (uW key BJ BK (ww closed))
end Cc
theorem mu(key BJ BK data:ByteArray)(w:World)(hk:key.size=32)(hn:BJ.size=12)(ht:BK.size≤100000)(hd:data.size≤100000):
  Rw 54 #[.string key,.string BJ,.string BK,.string data] w (.string (Cc.wA key BJ BK data)):=by
 have z1:=Cc.zs key BJ data;have z2:=Cc.yl key BJ BK (Cc.ue key BJ data);have HS:Hid (Rv 120 #[.string key,.string BJ,.string BK,.string (Cc.ue key BJ data)] (.string (Cc.uW key BJ BK (Cc.ue key BJ data)))):=fun wx=>jD key BJ BK _ wx hk hn ht (by omega)
 have HT:Hid (Rv 119 #[.string key,.string BJ,.string data] (.string (Cc.ue key BJ data))):=fun wx=>jw key BJ data wx hk hn (by omega)
 have HC:Hid (Cc.wA key BJ BK data=Cc.ue key BJ data++Cc.uW key BJ BK (Cc.ue key BJ data)):=by
  have:Cc.wA key BJ BK data=Cc.ue key BJ data++Cc.uW key BJ BK (Cc.ue key BJ data):=rfl;exact this
 generalize Cc.wA key BJ BK data=R at HC⊢;generalize Cc.uW key BJ BK (Cc.ue key BJ data)=s at z2 HS HC;generalize Cc.ue key BJ data=t at z1 HS HT HC;go_enter Tryz.func54,Tryz.ntmps54;go_wp2_with fail;refine gv HT fun w1 b1=> ?_
 go_wp2_with fail;refine gv HS fun w2 b2=> ?_
 go_wp2;go_ret;exact⟨by rw[show R=_ from HC.out];rfl,b1.trans (b2.mono b1.size)⟩
theorem jV(key BJ BK closed:ByteArray)(w:World)(hk:key.size=32)(hn:BJ.size=12)(ht:BK.size≤100000)(hc:closed.size≤100000)(h16:16≤closed.size):
  Rw 61 #[.string key,.string BJ,.string BK,.string closed] w (.tuple #[.string (if Cc.vk key BJ BK closed then Cc.ue key BJ (Cc.ww closed)else ⟨#[]⟩),.bool (Cc.vk key BJ BK closed)]):=by
 have z1:=Cc.zO closed;have z2:=Cc.tail_size closed h16;have HS:Hid (Rv 120 #[.string key,.string BJ,.string BK,.string (Cc.ww closed)] (.string (Cc.uW key BJ BK (Cc.ww closed)))):=fun wx=>jD key BJ BK _ wx hk hn ht (by omega)
 have HE:Hid (Rv 127 #[.string (Cc.AF closed),.string (Cc.uW key BJ BK (Cc.ww closed))] (.bool (Cc.vk key BJ BK closed))):=fun wx=>nD _ _ wx z2 (Cc.yl _ _ _ _)
 have HT:Hid (Rv 119 #[.string key,.string BJ,.string (Cc.ww closed)] (.string (Cc.ue key BJ (Cc.ww closed)))):=fun wx=>jw key BJ _ wx hk hn (by omega)
 have e1:Cc.ww closed=closed.extract 0 (closed.size - 16):=rfl;have e2:Cc.AF closed=closed.extract (closed.size - 16) closed.size:=rfl;rw[e1]at HS HE HT;rw[e2]at HE;rw[e1];clear z1 z2 e1 e2;have i1:IntKind.i64.wrap ((closed.size:Int) - 16)=(closed.size:Int) - 16:=by rw[IntKind.wrap_i64];omega
 have i2:(0:Int)≤(closed.size:Int) - 16:=by omega
 have i3:((closed.size:Int) - 16).toNat=closed.size - 16:=by omega
 have i4:(closed.size:Int) - 16≤closed.size:=by omega
 have i5:closed.size - 16≤closed.size:=by omega
 have i6:(16:Int)≤closed.size:=by omega
 generalize Cc.uW key BJ BK (closed.extract 0 (closed.size - 16))=s at HS HE;generalize Cc.ue key BJ (closed.extract 0 (closed.size - 16))=t at HT⊢;cases hr:Cc.vk key BJ BK closed with
 |true=>
  rw[hr]at HE;clear hr;rw[if_pos rfl];go_enter Tryz.func61,Tryz.ntmps61;go_wp2_with fail;go_region_with (first
   |(go_at_call 120;refine gv HS fun w1 b1=> ?_)
   |(go_at_call 127;refine gv HE fun w2 b2=> ?_))
  all_goals
   go_wp2_with (go_at_call 119;refine gv HT fun w3 b3=> ?_);go_ret2;have c1:Below w.heap.size w w1:=Below.trans (Below.drew (Below.refl w.heap.size w)) b1;have c2:=c1.trans (b2.mono c1.size);exact⟨rfl,c2.trans (b3.mono c2.size)⟩
 |false=>
  rw[hr]at HE;clear hr;rw[if_neg (by decide)];go_enter Tryz.func61,Tryz.ntmps61;go_wp2_with fail;go_region_with (first
   |(go_at_call 120;refine gv HS fun w1 b1=> ?_)
   |(go_at_call 127;refine gv HE fun w2 b2=> ?_))
  all_goals
   go_wp2;go_ret2;have c1:Below w.heap.size w w1:=Below.trans (Below.drew (Below.refl w.heap.size w)) b1;exact⟨rfl,c1.trans (b2.mono c1.size)⟩
def aW(key BJ BK:ByteArray):Bool:=decide (¬(key.size=32∧BJ.size=12∧BK.size≤12000))
theorem bV(s:ByteArray)(limit:Nat)(w:World)(hl:limit≤1000000)(hs:s.size≤140737488351232):
  Calls Tryz.prog 27 #[.int .i64 limit,.slice (some ⟨w.heap.size,0,none⟩) 1 1] (w.alloc (.cells (Ss [s]) 9)) fun e w'=>e= .returned (.bool (decide (limit<s.size)))∧w'=w.alloc (.cells (Ss [s]) 9):=by
 have:=cn w.heap.size 1 limit [s] 9 _ hl rfl (by omega) (Blk.new w _ _) (by intro j hj;match j,hj with|0,_=>show s.size≤_;omega);rw[fQ]at this;exact this
theorem dU(key BJ BK:ByteArray)(w:World)(hk:key.size≤140737488351232)(_hn:BJ.size≤140737488351232)(ht:BK.size≤140737488351232):
  Rw 60 #[.string key,.string BJ,.string BK] w (.bool (aW key BJ BK)):=by
 have HK:Hid (Calls Tryz.prog 24 #[.slice (some ⟨w.heap.size,0,none⟩) 1 1] (w.alloc (.cells (Ss [key]) 9)) fun e w'=>e= .returned (.bool (decide (¬key.size=32)))∧w'=w.alloc (.cells (Ss [key]) 9)):=bJ key w hk;have B9:Below w.heap.size w (w.alloc (.cells (Ss [key]) 9)):=bR.alloc nR _;by_cases h1:key.size=32
 ·rw[show decide (¬key.size=32)=false by simp[h1]]at HK;by_cases h2:BJ.size=12
  ·have HT:Hid (∀wx:World,Calls Tryz.prog 27 #[.int .i64 (12000:Nat),.slice (some ⟨wx.heap.size,0,none⟩) 1 1] (wx.alloc (.cells (Ss [BK]) 9)) fun e w'=>e= .returned (.bool (decide (12000<BK.size)))∧w'=wx.alloc (.cells (Ss [BK]) 9)):=fun wx=>bV BK 12000 wx (by omega) ht
   have e1:aW key BJ BK=decide (12000<BK.size):=by
    unfold aW;by_cases h3:BK.size≤12000
    ·simp[h1,h2,h3]
    ·simp[h1,h2,h3];omega
   rw[e1];clear e1;have d2:decide (¬(BJ.size:Int)=12)=false:=by simp;omega
   have i2:(BJ.size:Int)=12:=by omega
   go_enter Tryz.func60,Tryz.ntmps60;go_wp2_with fail;refine HK.out.mono ?_;rintro e w' ⟨rfl,rfl⟩;generalize w.alloc (.cells (Ss [key]) 9)=w1 at B9⊢;have BI:Below w.heap.size w (w1.alloc (.cells (Ss [BK]) 9)):=B9.alloc B9.size _;go_wp2_with fail;refine(HT.out _).mono ?_;rintro e w' ⟨rfl,rfl⟩;go_wp2;go_ret;exact⟨rfl,BI⟩
  ·have e1:aW key BJ BK=true:=by unfold aW;simp[h2]
   rw[e1];clear e1;have i2: ¬(BJ.size:Int)=12:=by omega
   go_enter Tryz.func60,Tryz.ntmps60;go_wp2_with fail;refine HK.out.mono ?_;rintro e w' ⟨rfl,rfl⟩;go_wp2;go_ret;exact⟨rfl,B9⟩
 ·rw[show decide (¬key.size=32)=true by simp[h1]]at HK;have e1:aW key BJ BK=true:=by unfold aW;simp[h1]
  rw[e1];clear e1;go_enter Tryz.func60,Tryz.ntmps60;go_wp2_with fail;refine HK.out.mono ?_;rintro e w' ⟨rfl,rfl⟩;go_wp2;go_ret;exact⟨rfl,B9⟩
def Cc.uk(key BJ BK data:ByteArray):ByteArray×Int:=
 if key.size=32∧BJ.size=12∧BK.size≤12000∧data.size≤12000 then(Cc.wA key BJ BK data,0)else (⟨#[]⟩,1)
def Cc.t7(key BJ BK closed:ByteArray):ByteArray×Int:=
 if key.size=32∧BJ.size=12∧BK.size≤12000∧16≤closed.size∧closed.size≤12016 then(if Cc.vk key BJ BK closed then(Cc.ue key BJ (Cc.ww closed),0)else (⟨#[]⟩,3))else (⟨#[]⟩,1)
theorem oe(key BJ BK data:ByteArray)(w:World)(hk:key.size≤140737488351232)(hn:BJ.size≤140737488351232)(ht:BK.size≤140737488351232)(hd:data.size≤140737488351232):
  Rw 94 #[.string key,.string BJ,.string BK,.string data] w (.tuple #[.string (Cc.uk key BJ BK data).1,.int .i64 (Cc.uk key BJ BK data).2]):=by
 have HCC:Hid (Rw 60 #[.string key,.string BJ,.string BK] w (.bool (aW key BJ BK))):=dU key BJ BK w hk hn ht;by_cases h:key.size=32∧BJ.size=12∧BK.size≤12000
 ·have e1:aW key BJ BK=false:=by unfold aW;rw[decide_eq_false_iff_not];exact fun h'=>h' h
  rw[e1]at HCC;clear e1;by_cases h2:data.size≤12000
  ·have e2:Cc.uk key BJ BK data=(Cc.wA key BJ BK data,0):=by unfold Cc.uk;rw[if_pos ⟨h.1,h.2.1,h.2.2,h2⟩]
   rw[e2];clear e2;obtain⟨ha,hb,hc⟩:=h;go_enter Tryz.func94,Tryz.ntmps94;go_wp2_with fail;refine HCC.out.mono ?_;rintro e w1 ⟨rfl,b1⟩;go_wp2_with fail;refine(bV data 12000 w1 (by omega) hd).mono ?_;rintro e w2 ⟨rfl,rfl⟩;have b2:=b1.alloc b1.size (.cells (Ss [data]) 9);rw[show decide (12000<data.size)=false by simp;omega];go_wp2_with fail;refine(mu key BJ BK data _ ha hb (by omega) (by omega)).mono ?_;rintro e w3 ⟨rfl,b3⟩;go_wp2;go_ret2;exact⟨rfl,b2.trans (b3.mono b2.size)⟩
  ·have e2:Cc.uk key BJ BK data=(⟨#[]⟩,1):=by unfold Cc.uk;rw[if_neg (fun h'=>h2 h'.2.2.2)]
   rw[e2];clear e2;go_enter Tryz.func94,Tryz.ntmps94;go_wp2_with fail;refine HCC.out.mono ?_;rintro e w1 ⟨rfl,b1⟩;go_wp2_with fail;refine(bV data 12000 w1 (by omega) hd).mono ?_;rintro e w2 ⟨rfl,rfl⟩;have b2:=b1.alloc b1.size (.cells (Ss [data]) 9);rw[show decide (12000<data.size)=true by simp;omega];go_wp2;go_ret2;exact⟨rfl,b2⟩
 ·have e1:aW key BJ BK=true:=by unfold aW;rw[decide_eq_true_iff];exact h
  rw[e1]at HCC;have e2:Cc.uk key BJ BK data=(⟨#[]⟩,1):=by unfold Cc.uk;rw[if_neg (fun h'=>h ⟨h'.1,h'.2.1,h'.2.2.1⟩)]
  rw[e2];clear e1 e2;go_enter Tryz.func94,Tryz.ntmps94;go_wp2_with fail;refine HCC.out.mono ?_;rintro e w1 ⟨rfl,b1⟩;go_wp2;go_ret2;exact⟨rfl,b1⟩
theorem kJ(key BJ BK closed:ByteArray)(w:World)(hk:key.size≤140737488351232)(hn:BJ.size≤140737488351232)(ht:BK.size≤140737488351232)(hd:closed.size≤140737488351232):
  Rw 31 #[.string key,.string BJ,.string BK,.string closed] w (.tuple #[.string (Cc.t7 key BJ BK closed).1,.int .i64 (Cc.t7 key BJ BK closed).2]):=by
 have HCC:Hid (Rw 60 #[.string key,.string BJ,.string BK] w (.bool (aW key BJ BK))):=dU key BJ BK w hk hn ht;by_cases h:key.size=32∧BJ.size=12∧BK.size≤12000
 ·have e1:aW key BJ BK=false:=by unfold aW;rw[decide_eq_false_iff_not];exact fun h'=>h' h
  rw[e1]at HCC;clear e1;by_cases h16:16≤closed.size
  ·have i16: ¬(closed.size:Int)<16:=by omega
   have d16:decide ((closed.size:Int)<16)=false:=by simp;omega
   by_cases h2:closed.size≤12016
   ·obtain⟨ha,hb,hc⟩:=h;have HU:=jV key BJ BK closed;have e2:Cc.t7 key BJ BK closed=if Cc.vk key BJ BK closed then(Cc.ue key BJ (Cc.ww closed),0)else (⟨#[]⟩,3):=by unfold Cc.t7;rw[if_pos ⟨ha,hb,hc,h16,h2⟩]
    rw[e2];clear e2;cases hr:Cc.vk key BJ BK closed with
    |true=>
     rw[hr]at HU;rw[if_pos rfl]at HU⊢;have HU':Hid (Rv 61 #[.string key,.string BJ,.string BK,.string closed] (.tuple #[.string (Cc.ue key BJ (Cc.ww closed)),.bool true])):=fun wx=>HU wx ha hb (by omega) (by omega) h16
     clear HU hr;go_enter Tryz.func31,Tryz.ntmps31;go_wp2_with fail;refine HCC.out.mono ?_;rintro e w1 ⟨rfl,b1⟩;go_wp2_with fail;refine(bV closed 12016 w1 (by omega) hd).mono ?_;rintro e w2 ⟨rfl,rfl⟩;have b2:=b1.alloc b1.size (.cells (Ss [closed]) 9);rw[show decide (12016<closed.size)=false by simp;omega];go_wp2_with fail;refine(HU'.out _).mono ?_;rintro e w3 ⟨rfl,b3⟩;go_wp2;go_ret2;exact⟨rfl,b2.trans (b3.mono b2.size)⟩
    |false=>
     rw[hr]at HU;rw[if_neg (by decide)]at HU⊢;have HU':Hid (Rv 61 #[.string key,.string BJ,.string BK,.string closed] (.tuple #[.string ⟨#[]⟩,.bool false])):=fun wx=>HU wx ha hb (by omega) (by omega) h16
     clear HU hr;go_enter Tryz.func31,Tryz.ntmps31;go_wp2_with fail;refine HCC.out.mono ?_;rintro e w1 ⟨rfl,b1⟩;go_wp2_with fail;refine(bV closed 12016 w1 (by omega) hd).mono ?_;rintro e w2 ⟨rfl,rfl⟩;have b2:=b1.alloc b1.size (.cells (Ss [closed]) 9);rw[show decide (12016<closed.size)=false by simp;omega];go_wp2_with fail;refine(HU'.out _).mono ?_;rintro e w3 ⟨rfl,b3⟩;go_wp2;go_ret2;exact⟨rfl,b2.trans (b3.mono b2.size)⟩
   ·have e2:Cc.t7 key BJ BK closed=(⟨#[]⟩,1):=by unfold Cc.t7;rw[if_neg (fun h'=>h2 h'.2.2.2.2)]
    rw[e2];clear e2;go_enter Tryz.func31,Tryz.ntmps31;go_wp2_with fail;refine HCC.out.mono ?_;rintro e w1 ⟨rfl,b1⟩;go_wp2_with fail;refine(bV closed 12016 w1 (by omega) hd).mono ?_;rintro e w2 ⟨rfl,rfl⟩;have b2:=b1.alloc b1.size (.cells (Ss [closed]) 9);rw[show decide (12016<closed.size)=true by simp;omega];go_wp2;go_ret2;exact⟨rfl,b2⟩
  ·have e2:Cc.t7 key BJ BK closed=(⟨#[]⟩,1):=by unfold Cc.t7;rw[if_neg (fun h'=>h16 h'.2.2.2.1)]
   rw[e2];clear e2;have i16:(closed.size:Int)<16:=by omega
   have d16:decide ((closed.size:Int)<16)=true:=by simp;omega
   go_enter Tryz.func31,Tryz.ntmps31;go_wp2_with fail;refine HCC.out.mono ?_;rintro e w1 ⟨rfl,b1⟩;go_wp2;go_ret2;exact⟨rfl,b1⟩
 ·have e1:aW key BJ BK=true:=by unfold aW;rw[decide_eq_true_iff];exact h
  rw[e1]at HCC;have e2:Cc.t7 key BJ BK closed=(⟨#[]⟩,1):=by unfold Cc.t7;rw[if_neg (fun h'=>h ⟨h'.1,h'.2.1,h'.2.2.1⟩)]
  rw[e2];clear e1 e2;go_enter Tryz.func31,Tryz.ntmps31;go_wp2_with fail;refine HCC.out.mono ?_;rintro e w1 ⟨rfl,b1⟩;go_wp2;go_ret2;exact⟨rfl,b1⟩
end Go.Proofs.YtclpbaokadfhhaaGreatDoor
