import Derived.Test.YtclpbaokadfhhaaGreatDoorZp
import Derived.Test.YtclpbaokadfhhaaGreatDoorXl
set_option maxRecDepth 100000
set_option maxHeartbeats 6000000
open Go.AllReady renaming cons->Qa,nil->Qc
open Go.Value renaming string->Qd,bool->Qe,tuple->Qf,slice->Qg,pointer->Qi,int->Qj
open Go renaming wpAny_ready->Qk,World->Qm,wpAny_done->Qn,below_setRow->Qo
open Go.Proofs.Tryz renaming ntmps31->Qp,func31->Qq,prog->Qt,ntmps94->Qx,ntmps60->Qy,func94->Qz,func60->QA,ntmps61->QB,func61->QC
open ByteArray renaming size_append->QD
open Go.Obj renaming cells->QE
open Go.RowKit.Below renaming trans->QF,refl->QG,drew->QH
namespace Go.Proofs.YtclpbaokadfhhaaGreatDoor
open Go.RowKit
def pJ(adw closed:ByteArray):ByteArray:=bS adw++bS closed++cE adw++cE closed
theorem DP(a b:Qb):(pJ a b).size%16=0:=by
 have c:=GP a;have h2:=GP b;unfold pJ;rw[QD,QD,QD,mT,mT];omega
theorem B7(a b:Qb):(pJ a b).size<=a.size+b.size+48:=by
 have c:=o7 a;have h2:=o7 b;unfold pJ;rw[QD,QD,QD,mT,mT,c,h2];unfold cj;omega
def Ho(key adu adw closed:ByteArray):List UInt8:=qI (λi=>(fm key 0 adu).getD i 0) (pJ adw closed)
def fW(key adu adw closed:ByteArray):ByteArray:=⟨(Ho key adu adw closed).toArray⟩
theorem Kv(d a b c:Qb):(Ho d a b c).length=16:=ux _ _
theorem uy(d a b c:Qb):(fW d a b c).size=16:=by
 show(Ho d a b c).toArray.size=16
 simp[Kv]
structure Ctx (w0:Qm) (M:List UInt8) (p:Nat) (wx:Qm):Prop where
 row:Blk wx p (Bs M) 176
 below:Below w0.heap.size w0 wx
theorem Ctx.call{b a c:Qm}{M:Qu}{p:Nat}(h:Ctx b M p a)(k:Below a.heap.size a c):Ctx b M p c:=⟨Blk.keep h.row k,QF h.below (Below.mono k h.below.size)⟩
theorem Ctx.alloc{a b:Qm}{M:Qu}{p:Nat}(h:Ctx a M p b)(o:Obj):Ctx a M p (b.alloc o):=⟨h.row.alloc o,h.below.alloc h.below.size o⟩
theorem Ctx.drew{a b:Qm}{M:Qu}{p:Nat}(h:Ctx a M p b):Ctx a M p b.drew:=⟨h.row,h.below.drew⟩
theorem Ctx.cells{b a:Qm}{M:Qu}{p:Nat}(h:Ctx b M p a)(d:M.length=64):∀i,i<32->a.cell? ⟨p,0+i,none⟩=some (Qj .u8 ((M.getD i 0).toNat:Int)):=λi c=>by
 rw[Nat.zero_add,h.row.cell,pY _ _ oo]
structure Nw (w0:Qm) (q:Nat) (wx:Qm):Prop where
 row:Blk wx q (Bs (aq 16)) 179
 le:w0.heap.size<=q
theorem Nw.made{b a c:Qm}{M:Qu}{p:Nat}(h:Ctx b M p a)(k:Below (a.alloc (QE (Bs (aq 16)) 179)).heap.size (a.alloc (QE (Bs (aq 16)) 179)) c):Nw b a.heap.size c:=
 ⟨Blk.keep (w:=a.alloc (QE (Bs (aq 16)) 179)) (Blk.new a (Bs (aq 16)) 179) k,h.below.size⟩
theorem Nw.call{b a c:Qm}{q:Nat}(h:Nw b q a)(k:Below a.heap.size a c):Nw b q c:=⟨h.row.keep k,h.le⟩
theorem VK(w:Qm):(Instr.alloc 179 true (Qf #[])).run Qt w=.ok (Qi (some ⟨w.heap.size,0,none⟩)) (w.alloc (QE (Bs (aq 16)) 179)):=by
 have a:=Be;go_simp
theorem tq{b:Array Oper}{o:Oper}{a:Act}{w:Qm}{K:Act->Qm->Prop}{Q:Exit->Act->Qm->Prop}{E:Prop}(d:o.guard=none)(e:o.op=Op.alloc 179)
  (c:K (a.put o.dst (Qi (some ⟨w.heap.size,0,none⟩))) (w.alloc (QE (Bs (aq 16)) 179))):
  if Region.wanted o (yielded b a.tmps)=true then Oper.wp Qt o a w K Q else E:=by
 have f:Region.wanted o (yielded b a.tmps)=true:=by simp[Region.wanted,d]
 rw[if_pos f];unfold Oper.wp;rw[show (execOp a.eval o).run Qt w=.ok (.value (Qi (some ⟨w.heap.size,0,none⟩))) (w.alloc (QE (Bs (aq 16)) 179)) by
  simp[execOp,e,VK,Result.andThen]]
 exact c
theorem bB(x y:Qb)(h:x.size+y.size<=9223372036854775807):Op.stringOp .add x y=pure (Qd (x++y)):=by
 unfold Op.stringOp;have:¬((x.size+y.size:Nat):Int)>IntKind.i64.max:=by show¬((x.size+y.size:Nat):Int)>9223372036854775807;omega
 simp only[this,if_false]
theorem Nm(r q b c:Qb)(w:Qm)(hk:r.size=32)(hn:q.size=12)(ht:b.size<=100000)(A:c.size<=100000):
  Rw 120 #[Qd r,Qd q,Qd b,Qd c] w (Qd (fW r q b c)):=by
 have hz:=M6;have ag:=Be;have T:Hid (Rv 178 #[Qd r,Qj .u32 0,Qd q] (.agg (Bs (fm r 0 q)))):=λk=>LF r q 0 k hk hn
 have x:(fm r 0 q).length=64:=uz _ _ _;have v:=Qh (p:=fW r q b c=⟨(qI (λi=>(fm r 0 q).getD i 0) (bS b++bS c++cE b++cE c)).toArray⟩) rfl
 generalize fW r q b c=R at v|-;generalize fm r 0 q=M at x T v;have L:Hid (∀(s:ByteArray) (k:Qm),s.size<=100000->Rw 180 #[Qd s] k (Qd (bS s))):=λs k h=>XI s k oo
 have t:Hid (∀(s:ByteArray) (k:Qm),s.size<=100000->Rw 181 #[Qd s] k (Qd (cE s))):=λs k h=>VD s k oo
 have z:Hid (∀(p:Nat) (k:Qm),(∀i,i<32->k.cell? ⟨p,0+i,none⟩=some (Qj .u8 ((M.getD i 0).toNat:Int)))->Rw 179 #[Qg (some ⟨p,0,none⟩) 32 64,Qd (bS b++bS c++cE b++cE c)] k (.agg (Bs (qI (λi=>M.getD i 0) (bS b++bS c++cE b++cE c))))):=λp k h=>
  Zt p 0 64 (λi=>M.getD i 0) _ k oo oo (by have:=B7 b c;unfold pJ at this;omega) (DP b c) h
 have j:(qI (λi=>M.getD i 0) (bS b++bS c++cE b++cE c)).length=16:=ux _ _;generalize qI (λi=>M.getD i 0) (bS b++bS c++cE b++cE c)=G at v z j;have z1:(bS b).size<=200000:=by rw[o7];unfold cj;omega
 have z2:(bS c).size<=200000:=by rw[o7];unfold cj;omega
 have z3:(cE b).size=8:=mT _;have z4:(cE c).size=8:=mT _;have y1:(bS b++bS c).size<=400000:=by rw[QD];omega
 have y2:(bS b++bS c++cE b).size<=400008:=by rw[QD];omega
 have ab:=Bz j;have o1:=bB (bS b) (bS c) oo;have X:=bB (bS b++bS c) (cE b) oo;have Z:=bB (bS b++bS c++cE b) (cE c) oo;generalize bS b++bS c++cE b++cE c=g3 at Z z;generalize bS b++bS c++cE b=g2 at X Z;generalize bS b++bS c=g1 at o1 X;clear z1 z2 z3 z4 y1 y2;generalize bS=F at o1 L;generalize cE=C at X Z t;go_enter Tryz.func120,Tryz.ntmps120;go_wp2_with fail;refine gv T λH W=>?_
 have ad:=Bz x;have m:=DS H (Bs (aq 64)) 176 M (by rw[x,rY];rfl);go_wp2_with fail;clear m;have B:Ctx w M H.heap.size (H.alloc (QE (Bs M) 176)):=⟨Blk.new H _ _,W.alloc W.size _⟩;generalize H.alloc (QE (Bs M) 176)=v1 at B|-;generalize H.heap.size=p at B|-;clear W H;replace B:=B.drew;clear T hz;refine wp_region_any kr ?_;change wpAny _ _ _ _ _ _ _ (World.drew _);generalize World.drew v1=vd at B|-;refine kY 0 ?_;refine kY 1 ?_;refine kY 3 ?_;refine kY 6 ?_;refine kY 9 ?_;refine Qk (rs:=[2,13]) kr ss ?_;refine Qa rfl (λK a=>?_) (Qa rfl (λK a=>?_) Qc)
 .skip;go_simp;go_wp2_with (go_at_call 180;refine(L.out _ _ ?_).mono ?_;exact ht;rintro e w2 ⟨rfl,Q⟩);have P:=Ctx.call B Q;try (refine a _ _ ?_;clear a K)
  refine Qk (rs:=[4,13]) kr ss ?_;refine Qa rfl (λK a=>?_) (Qa rfl (λK a=>?_) Qc)
  .skip;go_simp;go_wp2_with (go_at_call 180;refine(L.out _ _ ?_).mono ?_;exact A;rintro e w3 ⟨rfl,D⟩);have J:=Ctx.call P D;try (refine a _ _ ?_;clear a K)
   refine kY 5 ?_;refine Qk (rs:=[7,13]) kr ss ?_;refine Qa rfl (λK a=>?_) (Qa rfl (λK a=>?_) Qc)
   .skip;go_simp;go_wp2_with (go_at_call 181;refine(t.out _ _ ?_).mono ?_;exact ht;rintro e w4 ⟨rfl,u⟩);have y:=Ctx.call J u;try (refine a _ _ ?_;clear a K)
    refine kY 8 ?_;refine Qk (rs:=[10,13]) kr ss ?_;refine Qa rfl (λK a=>?_) (Qa rfl (λK a=>?_) Qc)
    .skip;go_simp;go_wp2_with (go_at_call 181;refine(t.out _ _ ?_).mono ?_;exact A;rintro e S ⟨rfl,n⟩);have f:=Ctx.call y n;try (refine a _ _ ?_;clear a K)
     refine kY 11 ?_;refine Qk (rs:=[12,13]) kr ss ?_;refine Qa rfl (λK a=>?_) (Qa rfl (λK a=>?_) Qc)
     .skip;go_simp;go_wp2_with (go_at_call 179;refine(z.out _ _ ?_).mono ?_;exact Ctx.cells f x;rintro e I ⟨rfl,g⟩);have o:=Ctx.call f g;try (refine a _ _ ?_;clear a K)
      have m:=DS I (Bs (aq 16)) 179 G (by rw[j];rfl);refine Qk (rs:=[13]) kr ss ?_;refine Qa rfl (λK a=>?_) Qc;refine tq rfl rfl ?_;go_simp;refine a _ _ ?_;clear a K;refine Qk (rs:=[14]) kr ss ?_;refine Qa rfl (λK a=>?_) Qc;go_simp;refine a _ _ ?_;clear a K;refine Qn kr ?_ _;have N:=gc (cap:=16) (Blk.new I (Bs G) 179) 16 j.symm;clear m;go_wp2;go_ret;exact⟨by rw[show R=_ from v.out];rfl,o.below.alloc o.below.size _⟩
     .refine tq rfl rfl ?_;go_simp;refine a _ _ ?_;clear a K;as_aux_lemma=>
       refine Qk (rs:=[12]) kr ss ?_;refine Qa rfl (λK a=>?_) Qc;go_simp;go_wp2_with (go_at_call 179;refine(z.out _ _ ?_).mono ?_;exact Ctx.cells (Ctx.alloc f _) x;rintro e I ⟨rfl,g⟩);have o:=Ctx.call (Ctx.alloc f _) g;have d:=Nw.made f g;try (refine a _ _ ?_;clear a K)
       have m:=r8 (l:=G) d.row (by rw[j];rfl);refine Qk (rs:=[14]) kr ss ?_;refine Qa rfl (λK a=>?_) Qc;go_simp;refine a _ _ ?_;clear a K;refine Qn kr ?_ _;have N:=gc (cap:=16) (d.row.row (Bs G)) 16 j.symm;clear m;go_wp2;go_ret;exact⟨by rw[show R=_ from v.out];rfl,Qo o.below d.le _⟩
    .refine tq rfl rfl ?_;go_simp;refine a _ _ ?_;clear a K;as_aux_lemma=>
      refine Qk (rs:=[10]) kr ss ?_;refine Qa rfl (λK a=>?_) Qc;go_simp;go_wp2_with (go_at_call 181;refine(t.out _ _ ?_).mono ?_;exact A;rintro e S ⟨rfl,n⟩);have f:=Ctx.call (Ctx.alloc y _) n;have E:=Nw.made y n;try (refine a _ _ ?_;clear a K)
      refine kY 11 ?_;refine Qk (rs:=[12]) kr ss ?_;refine Qa rfl (λK a=>?_) Qc;go_simp;go_wp2_with (go_at_call 179;refine(z.out _ _ ?_).mono ?_;exact Ctx.cells f x;rintro e I ⟨rfl,g⟩);have o:=Ctx.call f g;have d:=Nw.call E g;try (refine a _ _ ?_;clear a K)
      have m:=r8 (l:=G) d.row (by rw[j];rfl);refine Qk (rs:=[14]) kr ss ?_;refine Qa rfl (λK a=>?_) Qc;go_simp;refine a _ _ ?_;clear a K;refine Qn kr ?_ _;have N:=gc (cap:=16) (d.row.row (Bs G)) 16 j.symm;clear m;go_wp2;go_ret;exact⟨by rw[show R=_ from v.out];rfl,Qo o.below d.le _⟩
   .refine tq rfl rfl ?_;go_simp;refine a _ _ ?_;clear a K;as_aux_lemma=>
     refine Qk (rs:=[7]) kr ss ?_;refine Qa rfl (λK a=>?_) Qc;go_simp;go_wp2_with (go_at_call 181;refine(t.out _ _ ?_).mono ?_;exact ht;rintro e w4 ⟨rfl,u⟩);have y:=Ctx.call (Ctx.alloc J _) u;have O:=Nw.made J u;try (refine a _ _ ?_;clear a K)
     refine kY 8 ?_;refine Qk (rs:=[10]) kr ss ?_;refine Qa rfl (λK a=>?_) Qc;go_simp;go_wp2_with (go_at_call 181;refine(t.out _ _ ?_).mono ?_;exact A;rintro e S ⟨rfl,n⟩);have f:=Ctx.call y n;have E:=Nw.call O n;try (refine a _ _ ?_;clear a K)
     refine kY 11 ?_;refine Qk (rs:=[12]) kr ss ?_;refine Qa rfl (λK a=>?_) Qc;go_simp;go_wp2_with (go_at_call 179;refine(z.out _ _ ?_).mono ?_;exact Ctx.cells f x;rintro e I ⟨rfl,g⟩);have o:=Ctx.call f g;have d:=Nw.call E g;try (refine a _ _ ?_;clear a K)
     have m:=r8 (l:=G) d.row (by rw[j];rfl);refine Qk (rs:=[14]) kr ss ?_;refine Qa rfl (λK a=>?_) Qc;go_simp;refine a _ _ ?_;clear a K;refine Qn kr ?_ _;have N:=gc (cap:=16) (d.row.row (Bs G)) 16 j.symm;clear m;go_wp2;go_ret;exact⟨by rw[show R=_ from v.out];rfl,Qo o.below d.le _⟩
  .refine tq rfl rfl ?_;go_simp;refine a _ _ ?_;clear a K;as_aux_lemma=>
    refine Qk (rs:=[4]) kr ss ?_;refine Qa rfl (λK a=>?_) Qc;go_simp;go_wp2_with (go_at_call 180;refine(L.out _ _ ?_).mono ?_;exact A;rintro e w3 ⟨rfl,D⟩);have J:=Ctx.call (Ctx.alloc P _) D;have q3:=Nw.made P D;try (refine a _ _ ?_;clear a K)
    refine kY 5 ?_;refine Qk (rs:=[7]) kr ss ?_;refine Qa rfl (λK a=>?_) Qc;go_simp;go_wp2_with (go_at_call 181;refine(t.out _ _ ?_).mono ?_;exact ht;rintro e w4 ⟨rfl,u⟩);have y:=Ctx.call J u;have O:=Nw.call q3 u;try (refine a _ _ ?_;clear a K)
    refine kY 8 ?_;refine Qk (rs:=[10]) kr ss ?_;refine Qa rfl (λK a=>?_) Qc;go_simp;go_wp2_with (go_at_call 181;refine(t.out _ _ ?_).mono ?_;exact A;rintro e S ⟨rfl,n⟩);have f:=Ctx.call y n;have E:=Nw.call O n;try (refine a _ _ ?_;clear a K)
    refine kY 11 ?_;refine Qk (rs:=[12]) kr ss ?_;refine Qa rfl (λK a=>?_) Qc;go_simp;go_wp2_with (go_at_call 179;refine(z.out _ _ ?_).mono ?_;exact Ctx.cells f x;rintro e I ⟨rfl,g⟩);have o:=Ctx.call f g;have d:=Nw.call E g;try (refine a _ _ ?_;clear a K)
    have m:=r8 (l:=G) d.row (by rw[j];rfl);refine Qk (rs:=[14]) kr ss ?_;refine Qa rfl (λK a=>?_) Qc;go_simp;refine a _ _ ?_;clear a K;refine Qn kr ?_ _;have N:=gc (cap:=16) (d.row.row (Bs G)) 16 j.symm;clear m;go_wp2;go_ret;exact⟨by rw[show R=_ from v.out];rfl,Qo o.below d.le _⟩
 .refine tq rfl rfl ?_;go_simp;refine a _ _ ?_;clear a K;as_aux_lemma=>
   refine Qk (rs:=[2]) kr ss ?_;refine Qa rfl (λK a=>?_) Qc;go_simp;go_wp2_with (go_at_call 180;refine(L.out _ _ ?_).mono ?_;exact ht;rintro e w2 ⟨rfl,Q⟩);have P:=Ctx.call (Ctx.alloc B _) Q;have q2:=Nw.made B Q;try (refine a _ _ ?_;clear a K)
   refine Qk (rs:=[4]) kr ss ?_;refine Qa rfl (λK a=>?_) Qc;go_simp;go_wp2_with (go_at_call 180;refine(L.out _ _ ?_).mono ?_;exact A;rintro e w3 ⟨rfl,D⟩);have J:=Ctx.call P D;have q3:=Nw.call q2 D;try (refine a _ _ ?_;clear a K)
   refine kY 5 ?_;refine Qk (rs:=[7]) kr ss ?_;refine Qa rfl (λK a=>?_) Qc;go_simp;go_wp2_with (go_at_call 181;refine(t.out _ _ ?_).mono ?_;exact ht;rintro e w4 ⟨rfl,u⟩);have y:=Ctx.call J u;have O:=Nw.call q3 u;try (refine a _ _ ?_;clear a K)
   refine kY 8 ?_;refine Qk (rs:=[10]) kr ss ?_;refine Qa rfl (λK a=>?_) Qc;go_simp;go_wp2_with (go_at_call 181;refine(t.out _ _ ?_).mono ?_;exact A;rintro e S ⟨rfl,n⟩);have f:=Ctx.call y n;have E:=Nw.call O n;try (refine a _ _ ?_;clear a K)
   refine kY 11 ?_;refine Qk (rs:=[12]) kr ss ?_;refine Qa rfl (λK a=>?_) Qc;go_simp;go_wp2_with (go_at_call 179;refine(z.out _ _ ?_).mono ?_;exact Ctx.cells f x;rintro e I ⟨rfl,g⟩);have o:=Ctx.call f g;have d:=Nw.call E g;try (refine a _ _ ?_;clear a K)
   have m:=r8 (l:=G) d.row (by rw[j];rfl);refine Qk (rs:=[14]) kr ss ?_;refine Qa rfl (λK a=>?_) Qc;go_simp;refine a _ _ ?_;clear a K;refine Qn kr ?_ _;have N:=gc (cap:=16) (d.row.row (Bs G)) 16 j.symm;clear m;go_wp2;go_ret;exact⟨by rw[show R=_ from v.out];rfl,Qo o.below d.le _⟩
def du(key adu adw data:ByteArray):ByteArray:=bQ key adu data++fW key adu adw (bQ key adu data)
theorem qJ(c a b data:Qb):(du c a b data).size=data.size+16:=by
 unfold du;rw[QD,rK,uy]
def ev(closed:ByteArray):ByteArray:=closed.extract 0 (closed.size-16)
def uX(closed:ByteArray):ByteArray:=closed.extract (closed.size-16) closed.size
theorem Fl(a:Qb):(ev a).size=a.size-16:=by unfold ev;simp
theorem Pk(a:Qb)(h:16<=a.size):(uX a).size=16:=by unfold uX;simp;omega
def cG(key adu adw closed:ByteArray):Bool:=Fp (uX closed) (fW key adu adw (ev closed))
theorem Cj(b a c data:Qb)(w:Qm)(i:b.size=32)(j:a.size=12)(ht:c.size<=100000)(n:data.size<=100000):
  Rw 54 #[Qd b,Qd a,Qd c,Qd data] w (Qd (du b a c data)):=by
 have l:=rK b a data;have m:=uy b a c (bQ b a data);have e:Hid (Rv 120 #[Qd b,Qd a,Qd c,Qd (bQ b a data)] (Qd (fW b a c (bQ b a data)))):=λf=>Nm b a c _ f i j ht oo
 have g:=Qr λf=>Nd b a data f i j oo
 have d:=Qh (p:=du b a c data=bQ b a data++fW b a c (bQ b a data)) rfl
 generalize du b a c data=R at d|-;generalize fW b a c (bQ b a data)=s at m e d;generalize bQ b a data=t at l e g d;go_enter Tryz.func54,Tryz.ntmps54;go_wp2_with fail;refine gv g λo h=>?_
 go_wp2_with fail;refine gv e λq k=>?_
 go_wp2;go_ret;exact⟨by rw[show R=_ from d.out];rfl,h.trans (k.mono h.size)⟩
theorem p8(c b d a:Qb)(w:Qm)(p:c.size=32)(q:b.size=12)(ht:d.size<=100000)(A:a.size<=100000)(v:16<=a.size):
  Rw 61 #[Qd c,Qd b,Qd d,Qd a] w (Qf #[Qd (if cG c b d a then bQ c b (ev a)else ⟨#[]⟩),Qe (cG c b d a)]):=by
 have z:=Fl a;have r:=Pk a v;have h:Hid (Rv 120 #[Qd c,Qd b,Qd d,Qd (ev a)] (Qd (fW c b d (ev a)))):=λg=>Nm c b d _ g p q ht oo
 have e:Hid (Rv 127 #[Qd (uX a),Qd (fW c b d (ev a))] (Qe (cG c b d a))):=λg=>VB _ _ g r (uy _ _ _ _)
 have j:Hid (Rv 119 #[Qd c,Qd b,Qd (ev a)] (Qd (bQ c b (ev a)))):=λg=>Nd c b _ g p q oo
 have m:ev a=a.extract 0 (a.size-16):=rfl;have o:uX a=a.extract (a.size-16) a.size:=rfl;rw[m]at h e j;rw[o]at e;rw[m];clear z r m o;have B:IntKind.i64.wrap ((a.size:Int)-16)=(a.size:Int)-16:=by rw[IntKind.wrap_i64];omega
 have C:(0:Int)<=(a.size:Int)-16:=oo
 have D:((a.size:Int)-16).toNat=a.size-16:=oo
 have E:(a.size:Int)-16<=a.size:=oo
 have F:a.size-16<=a.size:=oo
 have G:(16:Int)<=a.size:=oo
 generalize fW c b d (a.extract 0 (a.size-16))=s at h e;generalize bQ c b (a.extract 0 (a.size-16))=t at j|-;cases i:cG c b d a with
 |true=>
  rw[i]at e;clear i;rw[if_pos rfl];go_enter QC,QB;go_wp2_with fail;go_region_with (first
   |(go_at_call 120;refine gv h λx k=>?_)
   |(go_at_call 127;refine gv e λy l=>?_))
  all_goals
   go_wp2_with (go_at_call 119;refine gv j λH u=>?_);go_ret2;have f:=QF (QH (QG w.heap.size w)) k;have n:=f.trans (l.mono f.size);exact⟨rfl,n.trans (u.mono n.size)⟩
 |false=>
  rw[i]at e;clear i;rw[if_neg dd];go_enter QC,QB;go_wp2_with fail;go_region_with (first
   |(go_at_call 120;refine gv h λx k=>?_)
   |(go_at_call 127;refine gv e λy l=>?_))
  all_goals
   go_wp2;go_ret2;have f:=QF (QH (QG w.heap.size w)) k;exact⟨rfl,f.trans (l.mono f.size)⟩
def lg(key adu adw:ByteArray):Bool:=decide (¬(key.size=32/\adu.size=12/\adw.size<=12000))
theorem rL(s:Qb)(a:Nat)(w:Qm)(c:a<=1000000)(d:s.size<=140737488351232):
  Calls Qt 27 #[Qj .i64 a,Qg (some ⟨w.heap.size,0,none⟩) 1 1] (w.alloc (QE (Ss [s]) 9)) λe w'=>e=.returned (Qe (decide (a<s.size)))/\w'=w.alloc (QE (Ss [s]) 9):=by
 have:=lV w.heap.size 1 a [s] 9 _ c rfl oo (Blk.new w _ _) (by intro j b;match j,b with|0,_=>show s.size<=_;omega);rw[qo]at this;exact this
theorem zY(a b c:Qb)(w:Qm)(l:a.size<=140737488351232)(_:b.size<=140737488351232)(ht:c.size<=140737488351232):
  Rw 60 #[Qd a,Qd b,Qd c] w (Qe (lg a b c)):=by
 have f:=Qh (nI a w l);have g:Below w.heap.size w (w.alloc (QE (Ss [a]) 9)):=bR.alloc nR _;by_cases h:a.size=32
 .rw[show decide (¬a.size=32)=false by simp[h]]at f;by_cases h2:b.size=12
  .have j:=Qh λo=>rL c 12000 o oo ht
   have d:lg a b c=decide (12000<c.size):=by
    unfold lg;by_cases i:c.size<=12000
    .simp[h,h2,i]
    .simp[h,h2,i];omega
   rw[d];clear d;have p:decide (¬(b.size:Int)=12)=false:=by simp;omega
   have m:(b.size:Int)=12:=oo
   go_enter QA,Qy;go_wp2_with fail;refine f.out.mono ?_;rintro e w' ⟨rfl,rfl⟩;generalize w.alloc (QE (Ss [a]) 9)=n at g|-;have k:Below w.heap.size w (n.alloc (QE (Ss [c]) 9)):=g.alloc g.size _;go_wp2_with fail;refine(j.out _).mono ?_;rintro e w' ⟨rfl,rfl⟩;go_wp2;go_ret;exact⟨rfl,k⟩
  .have d:lg a b c=true:=by unfold lg;simp[h2]
   rw[d];clear d;have m:¬(b.size:Int)=12:=oo
   go_enter QA,Qy;go_wp2_with fail;refine f.out.mono ?_;rintro e w' ⟨rfl,rfl⟩;go_wp2;go_ret;exact⟨rfl,g⟩
 .rw[show decide (¬a.size=32)=true by simp[h]]at f;have d:lg a b c=true:=by unfold lg;simp[h]
  rw[d];clear d;go_enter QA,Qy;go_wp2_with fail;refine f.out.mono ?_;rintro e w' ⟨rfl,rfl⟩;go_wp2;go_ret;exact⟨rfl,g⟩
def ep(key adu adw data:ByteArray):ByteArray×Int:=
 if key.size=32/\adu.size=12/\adw.size<=12000/\data.size<=12000 then(du key adu adw data,0)else (⟨#[]⟩,1)
def bI(key adu adw closed:ByteArray):ByteArray×Int:=
 if key.size=32/\adu.size=12/\adw.size<=12000/\16<=closed.size/\closed.size<=12016 then(if cG key adu adw closed then(bQ key adu (ev closed),0)else (⟨#[]⟩,3))else (⟨#[]⟩,1)
theorem WV(c a b data:Qb)(w:Qm)(q:c.size<=140737488351232)(r:a.size<=140737488351232)(ht:b.size<=140737488351232)(m:data.size<=140737488351232):
  Rw 94 #[Qd c,Qd a,Qd b,Qd data] w (Qf #[Qd (ep c a b data).1,Qj .i64 (ep c a b data).2]):=by
 have i:=Qh (zY c a b w q r ht);by_cases h:c.size=32/\a.size=12/\b.size<=12000
 .have j:lg c a b=false:=by unfold lg;rw[decide_eq_false_iff_not];exact λg=>g h
  rw[j]at i;clear j;by_cases h2:data.size<=12000
  .have d:ep c a b data=(du c a b data,0):=by unfold ep;rw[if_pos ⟨h.1,h.2.1,h.2.2,h2⟩]
   rw[d];clear d;obtain⟨o,p,t⟩:=h;go_enter Qz,Qx;go_wp2_with fail;refine i.out.mono ?_;rintro e l ⟨rfl,f⟩;go_wp2_with fail;refine(rL data 12000 l oo m).mono ?_;rintro e s ⟨rfl,rfl⟩;have k:=f.alloc f.size (QE (Ss [data]) 9);rw[show decide (12000<data.size)=false by simp;omega];go_wp2_with fail;refine mo (Cj c a b data _ o p oo oo) λu n=>?_;go_wp2;go_ret2;exact⟨rfl,k.trans (n.mono k.size)⟩
  .have d:ep c a b data=(⟨#[]⟩,1):=by unfold ep;rw[if_neg (λg=>h2 g.2.2.2)]
   rw[d];clear d;go_enter Qz,Qx;go_wp2_with fail;refine i.out.mono ?_;rintro e l ⟨rfl,f⟩;go_wp2_with fail;refine(rL data 12000 l oo m).mono ?_;rintro e s ⟨rfl,rfl⟩;have k:=f.alloc f.size (QE (Ss [data]) 9);rw[show decide (12000<data.size)=true by simp;omega];go_wp2;go_ret2;exact⟨rfl,k⟩
 .have j:lg c a b=true:=by unfold lg;rw[decide_eq_true_iff];exact h
  rw[j]at i;have d:ep c a b data=(⟨#[]⟩,1):=by unfold ep;rw[if_neg (λg=>h ⟨g.1,g.2.1,g.2.2.1⟩)]
  rw[d];clear j d;go_enter Qz,Qx;go_wp2_with fail;refine i.out.mono ?_;rintro e l ⟨rfl,f⟩;go_wp2;go_ret2;exact⟨rfl,f⟩
theorem P4(c b d a:Qb)(w:Qm)(A:c.size<=140737488351232)(B:b.size<=140737488351232)(ht:d.size<=140737488351232)(u:a.size<=140737488351232):
  Rw 31 #[Qd c,Qd b,Qd d,Qd a] w (Qf #[Qd (bI c b d a).1,Qj .i64 (bI c b d a).2]):=by
 have k:=Qh (zY c b d w A B ht);by_cases h:c.size=32/\b.size=12/\d.size<=12000
 .have n:lg c b d=false:=by unfold lg;rw[decide_eq_false_iff_not];exact λi=>i h
  rw[n]at k;clear n;by_cases o:16<=a.size
  .have C:¬(a.size:Int)<16:=oo
   have y:decide ((a.size:Int)<16)=false:=by simp;omega
   by_cases h2:a.size<=12016
   .obtain⟨s,t,z⟩:=h;have j:=p8 c b d a;have g:bI c b d a=if cG c b d a then(bQ c b (ev a),0)else (⟨#[]⟩,3):=by unfold bI;rw[if_pos ⟨s,t,z,o,h2⟩]
    rw[g];clear g;cases p:cG c b d a with
    |true=>
     rw[p]at j;rw[if_pos rfl]at j|-;have q:=Qr λv=>j v s t oo oo o
     clear j p;go_enter Qq,Qp;go_wp2_with fail;refine k.out.mono ?_;rintro e m ⟨rfl,f⟩;go_wp2_with fail;refine(rL a 12016 m oo u).mono ?_;rintro e x ⟨rfl,rfl⟩;have l:=f.alloc f.size (QE (Ss [a]) 9);rw[show decide (12016<a.size)=false by simp;omega];go_wp2_with fail;refine mo (q.out _) λD r=>?_;go_wp2;go_ret2;exact⟨rfl,l.trans (r.mono l.size)⟩
    |false=>
     rw[p]at j;rw[if_neg dd]at j|-;have q:=Qr λv=>j v s t oo oo o
     clear j p;go_enter Qq,Qp;go_wp2_with fail;refine k.out.mono ?_;rintro e m ⟨rfl,f⟩;go_wp2_with fail;refine(rL a 12016 m oo u).mono ?_;rintro e x ⟨rfl,rfl⟩;have l:=f.alloc f.size (QE (Ss [a]) 9);rw[show decide (12016<a.size)=false by simp;omega];go_wp2_with fail;refine mo (q.out _) λD r=>?_;go_wp2;go_ret2;exact⟨rfl,l.trans (r.mono l.size)⟩
   .have g:bI c b d a=(⟨#[]⟩,1):=by unfold bI;rw[if_neg (λi=>h2 i.2.2.2.2)]
    rw[g];clear g;go_enter Qq,Qp;go_wp2_with fail;refine k.out.mono ?_;rintro e m ⟨rfl,f⟩;go_wp2_with fail;refine(rL a 12016 m oo u).mono ?_;rintro e x ⟨rfl,rfl⟩;have l:=f.alloc f.size (QE (Ss [a]) 9);rw[show decide (12016<a.size)=true by simp;omega];go_wp2;go_ret2;exact⟨rfl,l⟩
  .have g:bI c b d a=(⟨#[]⟩,1):=by unfold bI;rw[if_neg (λi=>o i.2.2.2.1)]
   rw[g];clear g;have C:(a.size:Int)<16:=oo
   have y:decide ((a.size:Int)<16)=true:=by simp;omega
   go_enter Qq,Qp;go_wp2_with fail;refine k.out.mono ?_;rintro e m ⟨rfl,f⟩;go_wp2;go_ret2;exact⟨rfl,f⟩
 .have n:lg c b d=true:=by unfold lg;rw[decide_eq_true_iff];exact h
  rw[n]at k;have g:bI c b d a=(⟨#[]⟩,1):=by unfold bI;rw[if_neg (λi=>h ⟨i.1,i.2.1,i.2.2.1⟩)]
  rw[g];clear n g;go_enter Qq,Qp;go_wp2_with fail;refine k.out.mono ?_;rintro e m ⟨rfl,f⟩;go_wp2;go_ret2;exact⟨rfl,f⟩
end Go.Proofs.YtclpbaokadfhhaaGreatDoor
