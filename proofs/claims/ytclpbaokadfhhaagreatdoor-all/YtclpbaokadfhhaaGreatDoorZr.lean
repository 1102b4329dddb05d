import Derived.Test.YtclpbaokadfhhaaGreatDoorZq
import Derived.Test.YtclpbaokadfhhaaGreatDoorYj
set_option maxRecDepth 100000
set_option maxHeartbeats 8000000
open Go.Value renaming int->Qa,pointer->Qc,string->Qd,agg->Qe
open Go.IntKind renaming u32->Qf,i64->Qg,wrap_i64->Qi,wrap_u32->Qj
open List renaming getD_eq_getElem?_getD->Qk,getElem?_eq_getElem->Qm,size_toArray->Qn,getElem?_append_right->Qo,getElem?_append_left->Qp,getElem?_eq_none->Qq
open BitVec renaming ofNat->Qt
open Go renaming below_setRow->Qx,World->Qy
open Go.RowKit renaming intOf->Qz,Below->QA
open Go.Obj renaming cells->QB
open UInt8 renaming toNat_ofNat'->QC,ofNat->QD
namespace Go.Proofs.YtclpbaokadfhhaaGreatDoor
open Go.RowKit
theorem IQ(x:BitVec 32)(n:Nat)(w:Qy)(h0:0<n)(b:n<32):
  Rw 260 #[Qa Qf (V x),Qa Qg n] w (Qa Qf (V (ig x n))):=by
 have a:Qg.wrap (32-(n:Int))=((32-n:Nat):Int):=by rw[Qi];omega
 go_enter Tryz.func260,Tryz.ntmps260;go_wp2_with fail;go_region
 all_goals
  go_wp2;go_ret;refine⟨?_,bR.drew⟩;rw[N8,TH,XQ];rfl
theorem ZV(f:Nat->UInt8):bits BinOp.or Qf (bits BinOp.or Qf (bits BinOp.or Qf (((f 0).toNat:Int)%4294967296) (((f 1).toNat:Int)%4294967296*256%4294967296)) (((f 2).toNat:Int)%4294967296*65536%4294967296)) (((f 3).toNat:Int)%4294967296*16777216%4294967296)=V (iu f 4):=by
 have h0:=(f 0).toNat_lt;have d:((f 0).toNat:Int)%4294967296=V (iu f 1):=by
  rw[show iu f 1=Qt 32 (f 0).toNat by simp[iu],<-TJ _ oo];omega
 have a:=wG (iu f 1) (f 1) 1;have b:=wG (iu f 2) (f 2) 2;have c:=wG (iu f 3) (f 3) 3;rw[show (2:Int)^(8*1)=256 by decide]at a;rw[show (2:Int)^(8*2)=65536 by decide]at b;rw[show (2:Int)^(8*3)=16777216 by decide]at c;rw[d,a];rw[show iu f 1|||Qt 32 (f 1).toNat<<<(8*1)=iu f 2 from rfl,b];rw[show iu f 2|||Qt 32 (f 2).toNat<<<(8*2)=iu f 3 from rfl,c];rfl
theorem acc(s:Qb)(f:Nat->UInt8)(w:Qy)(g:s.size=4)(a:∀i,i<4->s.data.toList.getD i 0=f i):
  Rw 236 #[Qd s] w (Qa Qf (V (iu f 4))):=by
 have b:=mM s 0 0 oo (by rfl) oo;have c:=mM s 1 1 oo (by rfl) oo;have d:=mM s 2 2 oo (by rfl) oo;have e:=mM s 3 3 oo (by rfl) oo;unfold byt at b c d e;rw[a 0 oo]at b;rw[a 1 oo]at c;rw[a 2 oo]at d;rw[a 3 oo]at e;go_enter Tryz.func236,Tryz.ntmps236;go_wp2_with fail;go_region
 all_goals
  go_wp2;go_ret;refine⟨?_,bR.drew⟩;rw[ZV];rfl
theorem mY{w:Qy}{p t:Nat}{l:List (BitVec 32)}(a:Blk w p (Vs l) t)(i:Nat)(h:i<l.length):w.cell? ⟨p,i,none⟩=some (Qa Qf (V (l.getD i 0))):=by
 have:=a.cell i;rw[ui _ _ h]at this;exact this
def mV(l:List (BitVec 32))(a b:Nat):List (BitVec 32):=l.set a (l.getD a 0+l.getD b 0)
def mU(l:List (BitVec 32))(d a n:Nat):List (BitVec 32):=l.set d (ig (l.getD d 0^^^l.getD a 0) n)
theorem xo(l:List (BitVec 32))(a b:Nat):(mV l a b).length=l.length:=by simp[mV]
theorem xn(l:List (BitVec 32))(d a n:Nat):(mU l d a n).length=l.length:=by simp[mU]
theorem MX(l:List (BitVec 32))(g b t n:Nat)(a:g<l.length)(h:g≠t):mU (mV l g b) t g n=mC l g b t n:=by
 unfold mU mV;rw[vh _ _ _ _ _ h,xr _ _ _ _ a];rfl
theorem acp(l:List (BitVec 32))(a b c d:Nat)(i:l.length=16)(g:a<16)(h:c<16)(e:a≠d)(f:c≠b):
  mU (mV (mU (mV (mU (mV (mU (mV l a b) d a 16) c d) b c 12) a b) d a 8) c d) b c 7=aN l a b c d:=by
 unfold aN;rw[MX l a b d 16 oo e,MX _ c d b 12 (by rw[j9];omega) f,MX _ a b d 8 (by rw[j9,j9];omega) e,MX _ c d b 7 (by rw[j9,j9,j9];omega) f]
theorem Sm(w:Qy):Sem.run Tryz.prog (zeroValue 203) w=.ok (Qe (Vs nS)) w:=kr
def QS(w:Qy)(L:List (BitVec 32))(wx:Qy):Prop:=Blk wx w.heap.size (Vs L) 203/\Blk wx (w.heap.size+1) (Vs nS) 203/\QA w.heap.size w wx
theorem QS.drew{w a:Qy}{L:List (BitVec 32)}(h:QS w L a):QS w L a.drew:=⟨h.1.drew,h.2.1.drew,h.2.2.drew⟩
theorem QS.keep{w a b:Qy}{L:List (BitVec 32)}(h:QS w L a)(k:QA a.heap.size a b):QS w L b:=⟨h.1.keep k,h.2.1.keep k,h.2.2.trans (k.mono h.2.2.size)⟩
theorem QS.set{w a:Qy}{L:List (BitVec 32)}(h:QS w L a)(i:Nat)(x:BitVec 32):QS w (L.set i x) (a.setCell ⟨w.heap.size,i,none⟩ (Qa Qf (V x))):=by
 have e:a.setCell ⟨w.heap.size,i,none⟩ (Qa Qf (V x))=a.setRow w.heap.size (Vs (L.set i x)):=by rw[h.1.set,Ip]
 rw[e];exact⟨h.1.row _,h.2.1.other oo _,Qx h.2.2 nR _⟩
theorem xY(l:List (BitVec 32))(a b c d:Nat)(w:Qy)(Z:l.length=16)(ha:a<16)(hb:b<16)(hc:c<16)(hd:d<16)(ay:a≠d)(az:c≠b):
  Rw 237 #[Qe (Vs l),Qa Qg a,Qa Qg b,Qa Qg c,Qa Qg d] w (Qe (Vs (aN l a b c d))):=by
 have B:=Qh (acp l a b c d Z ha hc ay az);generalize aN l a b c d=R at B|-;have hz:=Sm;have bk:=Vz Z;have ia:(a:Int)<16:=oo
 have ib:(b:Int)<16:=oo
 have ic:(c:Int)<16:=oo
 have id:(d:Int)<16:=oo
 have e:QS w l ((w.alloc (QB (Vs l) 203)).alloc (QB (Vs nS) 203)):=⟨heap_alloc2_old w _ _,heap_alloc2_new w _ _,(bR.alloc nR _).alloc ss _⟩;go_enter Tryz.func237,Tryz.ntmps237;go_wp2_with fail;generalize (w.alloc (QB (Vs l) 203)).alloc (QB (Vs nS) 203)=w0 at e|-;refine bu (S:=QS w l) (ls:=[9]) kr ?_;have o:=e.drew;clear e;generalize w0.drew=a0 at o|-;have e:=o;clear o;have i:Hid (∀f,QS w l f->f.cell? ⟨w.heap.size,a,none⟩=some (Qa Qf (V (l.getD a 0)))):=λf h=>mY h.1 a oo
 have m:Hid (∀f,QS w l f->f.cell? ⟨w.heap.size,b,none⟩=some (Qa Qf (V (l.getD b 0)))):=λf h=>mY h.1 b oo
 have j:Hid (mV l a b=l.set a (l.getD a 0+l.getD b 0)):=rfl;generalize l.getD a 0=L at i j;generalize l.getD b 0=P at m j;refine ac 0 11 (v:=Qa Qg a) e ?_ ?_
 .exact λf _=>rfl
 refine ac 1 12 (v:=Qa Qg a) e ?_ ?_
 .exact λf _=>rfl
 refine ae 2 13 (v:=Qc (some ⟨w.heap.size,a,none⟩)) e ?_;simp only[qQ];refine ac 3 14 (v:=Qa Qf (V L)) e ?_ ?_
 ·(intro f g;have n:=i.out f g;clear g;go_simp;try (with_reducible rfl))
 refine ac 4 15 (v:=Qa Qg b) e ?_ ?_
 .exact λf _=>rfl
 refine ae 5 16 (v:=Qc (some ⟨w.heap.size,b,none⟩)) e ?_;simp only[qQ];refine ac 6 17 (v:=Qa Qf (V P)) e ?_ ?_
 ·(intro f g;have n:=m.out f g;clear g;go_simp;try (with_reducible rfl))
 refine ac 7 18 (v:=Qa Qf (V (L+P))) e ?_ ?_
 ·(intro f g;clear g;go_simp;first|rw[Cr]|rw[Bj])
 refine ae 8 19 (v:=Qc (some ⟨w.heap.size,a,none⟩)) e ?_;simp only[qQ];refine eF 9 λK k=>?_
 have p:=e.1.frozen a;have n:=i.out _ e;go_simp;refine k.out _ _ ?_;clear k K p n;replace e:=e.set a (L+P);have ab:(mV l a b).length=16:=by rw[xo];exact Z
 rw[<-j.out]at e;skip;replace e:=e;generalize a0.setCell ⟨w.heap.size,a,none⟩ (Qa Qf (V (L+P)))=a8 at e|-;clear j i m;generalize mV l a b=r at e B ab;refine aC ?_;go_wp2_with fail;refine bu (S:=QS w r) (ls:=[10]) kr ?_;have o:=e.drew;clear e;generalize a8.drew=bq at o|-;have e:=o;clear o;have i:Hid (∀f,QS w r f->f.cell? ⟨w.heap.size,d,none⟩=some (Qa Qf (V (r.getD d 0)))):=λf h=>mY h.1 d oo
 have m:Hid (∀f,QS w r f->f.cell? ⟨w.heap.size,a,none⟩=some (Qa Qf (V (r.getD a 0)))):=λf h=>mY h.1 a oo
 have j:Hid (mU r d a 16=r.set d (ig (r.getD d 0^^^r.getD a 0) 16)):=rfl;generalize r.getD d 0=C at i j;generalize r.getD a 0=G at m j;refine ac 0 20 (v:=Qa Qg d) e ?_ ?_
 .exact λf _=>rfl
 refine ac 1 21 (v:=Qa Qg d) e ?_ ?_
 .exact λf _=>rfl
 refine ae 2 22 (v:=Qc (some ⟨w.heap.size,d,none⟩)) e ?_;simp only[qQ];refine ac 3 23 (v:=Qa Qf (V C)) e ?_ ?_
 ·(intro f g;have n:=i.out f g;clear g;go_simp;try (with_reducible rfl))
 refine ac 4 24 (v:=Qa Qg a) e ?_ ?_
 .exact λf _=>rfl
 refine ae 5 25 (v:=Qc (some ⟨w.heap.size,a,none⟩)) e ?_;simp only[qQ];refine ac 6 26 (v:=Qa Qf (V G)) e ?_ ?_
 ·(intro f g;have n:=m.out f g;clear g;go_simp;try (with_reducible rfl))
 refine ac 7 27 (v:=Qa Qf (V (C^^^G))) e ?_ ?_
 ·(intro f g;clear g;go_simp;rw[Iq])
 simp only[qQ];refine aF 8 λK k=>?_
 go_simp;go_wp2_with (go_at_call 260;refine mo (IQ (C^^^G) 16 _ oo oo) λa4 A=>?_);have q:=e.keep A;refine k.out _ _ q ?_;try simp only[qQ]
 clear k K A e;have e:=q;clear q;refine ae 9 29 (v:=Qc (some ⟨w.heap.size,d,none⟩)) e ?_;try simp only[qQ]
 refine eF 10 λK k=>?_
 have p:=e.1.frozen d;have n:=i.out _ e;go_simp;refine k.out _ _ ?_;clear k K p n;replace e:=e.set d (ig (C^^^G) 16);have ad:(mU r d a 16).length=16:=by rw[xn];exact ab
 rw[<-j.out]at e;skip;replace e:=e;generalize a4.setCell ⟨w.heap.size,d,none⟩ (Qa Qf (V (ig (C^^^G) 16)))=a9 at e|-;clear j i m;generalize mU r d a 16=s at e B ad;refine aC ?_;go_wp2_with fail;refine bu (S:=QS w s) (ls:=[9]) kr ?_;have o:=e.drew;clear e;generalize a9.drew=a1 at o|-;have e:=o;clear o;have i:Hid (∀f,QS w s f->f.cell? ⟨w.heap.size,c,none⟩=some (Qa Qf (V (s.getD c 0)))):=λf h=>mY h.1 c oo
 have m:Hid (∀f,QS w s f->f.cell? ⟨w.heap.size,d,none⟩=some (Qa Qf (V (s.getD d 0)))):=λf h=>mY h.1 d oo
 have j:Hid (mV s c d=s.set c (s.getD c 0+s.getD d 0)):=rfl;generalize s.getD c 0=M at i j;generalize s.getD d 0=Q at m j;refine ac 0 30 (v:=Qa Qg c) e ?_ ?_
 .exact λf _=>rfl
 refine ac 1 31 (v:=Qa Qg c) e ?_ ?_
 .exact λf _=>rfl
 refine ae 2 32 (v:=Qc (some ⟨w.heap.size,c,none⟩)) e ?_;simp only[qQ];refine ac 3 33 (v:=Qa Qf (V M)) e ?_ ?_
 ·(intro f g;have n:=i.out f g;clear g;go_simp;try (with_reducible rfl))
 refine ac 4 34 (v:=Qa Qg d) e ?_ ?_
 .exact λf _=>rfl
 refine ae 5 35 (v:=Qc (some ⟨w.heap.size,d,none⟩)) e ?_;simp only[qQ];refine ac 6 36 (v:=Qa Qf (V Q)) e ?_ ?_
 ·(intro f g;have n:=m.out f g;clear g;go_simp;try (with_reducible rfl))
 refine ac 7 37 (v:=Qa Qf (V (M+Q))) e ?_ ?_
 ·(intro f g;clear g;go_simp;first|rw[Cr]|rw[Bj])
 refine ae 8 38 (v:=Qc (some ⟨w.heap.size,c,none⟩)) e ?_;simp only[qQ];refine eF 9 λK k=>?_
 have p:=e.1.frozen c;have n:=i.out _ e;go_simp;refine k.out _ _ ?_;clear k K p n;replace e:=e.set c (M+Q);have ag:(mV s c d).length=16:=by rw[xo];exact ad
 rw[<-j.out]at e;skip;replace e:=e;generalize a1.setCell ⟨w.heap.size,c,none⟩ (Qa Qf (V (M+Q)))=ba at e|-;clear j i m;generalize mV s c d=t at e B ag;refine aC ?_;go_wp2_with fail;refine bu (S:=QS w t) (ls:=[10]) kr ?_;have o:=e.drew;clear e;generalize ba.drew=bs at o|-;have e:=o;clear o;have i:Hid (∀f,QS w t f->f.cell? ⟨w.heap.size,b,none⟩=some (Qa Qf (V (t.getD b 0)))):=λf h=>mY h.1 b oo
 have m:Hid (∀f,QS w t f->f.cell? ⟨w.heap.size,c,none⟩=some (Qa Qf (V (t.getD c 0)))):=λf h=>mY h.1 c oo
 have j:Hid (mU t b c 12=t.set b (ig (t.getD b 0^^^t.getD c 0) 12)):=rfl;generalize t.getD b 0=D at i j;generalize t.getD c 0=H at m j;refine ac 0 39 (v:=Qa Qg b) e ?_ ?_
 .exact λf _=>rfl
 refine ac 1 40 (v:=Qa Qg b) e ?_ ?_
 .exact λf _=>rfl
 refine ae 2 41 (v:=Qc (some ⟨w.heap.size,b,none⟩)) e ?_;simp only[qQ];refine ac 3 42 (v:=Qa Qf (V D)) e ?_ ?_
 ·(intro f g;have n:=i.out f g;clear g;go_simp;try (with_reducible rfl))
 refine ac 4 43 (v:=Qa Qg c) e ?_ ?_
 .exact λf _=>rfl
 refine ae 5 44 (v:=Qc (some ⟨w.heap.size,c,none⟩)) e ?_;simp only[qQ];refine ac 6 45 (v:=Qa Qf (V H)) e ?_ ?_
 ·(intro f g;have n:=m.out f g;clear g;go_simp;try (with_reducible rfl))
 refine ac 7 46 (v:=Qa Qf (V (D^^^H))) e ?_ ?_
 ·(intro f g;clear g;go_simp;rw[Iq])
 simp only[qQ];refine aF 8 λK k=>?_
 go_simp;go_wp2_with (go_at_call 260;refine mo (IQ (D^^^H) 12 _ oo oo) λa5 A=>?_);have q:=e.keep A;refine k.out _ _ q ?_;try simp only[qQ]
 clear k K A e;have e:=q;clear q;refine ae 9 48 (v:=Qc (some ⟨w.heap.size,b,none⟩)) e ?_;try simp only[qQ]
 refine eF 10 λK k=>?_
 have p:=e.1.frozen b;have n:=i.out _ e;go_simp;refine k.out _ _ ?_;clear k K p n;replace e:=e.set b (ig (D^^^H) 12);have ah:(mU t b c 12).length=16:=by rw[xn];exact ag
 rw[<-j.out]at e;skip;replace e:=e;generalize a5.setCell ⟨w.heap.size,b,none⟩ (Qa Qf (V (ig (D^^^H) 12)))=bb at e|-;clear j i m;generalize mU t b c 12=u at e B ah;refine aC ?_;go_wp2_with fail;refine bu (S:=QS w u) (ls:=[9]) kr ?_;have o:=e.drew;clear e;generalize bb.drew=a2 at o|-;have e:=o;clear o;have i:Hid (∀f,QS w u f->f.cell? ⟨w.heap.size,a,none⟩=some (Qa Qf (V (u.getD a 0)))):=λf h=>mY h.1 a oo
 have m:Hid (∀f,QS w u f->f.cell? ⟨w.heap.size,b,none⟩=some (Qa Qf (V (u.getD b 0)))):=λf h=>mY h.1 b oo
 have j:Hid (mV u a b=u.set a (u.getD a 0+u.getD b 0)):=rfl;generalize u.getD a 0=N at i j;generalize u.getD b 0=T at m j;refine ac 0 49 (v:=Qa Qg a) e ?_ ?_
 .exact λf _=>rfl
 refine ac 1 50 (v:=Qa Qg a) e ?_ ?_
 .exact λf _=>rfl
 refine ae 2 51 (v:=Qc (some ⟨w.heap.size,a,none⟩)) e ?_;simp only[qQ];refine ac 3 52 (v:=Qa Qf (V N)) e ?_ ?_
 ·(intro f g;have n:=i.out f g;clear g;go_simp;try (with_reducible rfl))
 refine ac 4 53 (v:=Qa Qg b) e ?_ ?_
 .exact λf _=>rfl
 refine ae 5 54 (v:=Qc (some ⟨w.heap.size,b,none⟩)) e ?_;simp only[qQ];refine ac 6 55 (v:=Qa Qf (V T)) e ?_ ?_
 ·(intro f g;have n:=m.out f g;clear g;go_simp;try (with_reducible rfl))
 refine ac 7 56 (v:=Qa Qf (V (N+T))) e ?_ ?_
 ·(intro f g;clear g;go_simp;first|rw[Cr]|rw[Bj])
 refine ae 8 57 (v:=Qc (some ⟨w.heap.size,a,none⟩)) e ?_;simp only[qQ];refine eF 9 λK k=>?_
 have p:=e.1.frozen a;have n:=i.out _ e;go_simp;refine k.out _ _ ?_;clear k K p n;replace e:=e.set a (N+T);have an:(mV u a b).length=16:=by rw[xo];exact ah
 rw[<-j.out]at e;skip;replace e:=e;generalize a2.setCell ⟨w.heap.size,a,none⟩ (Qa Qf (V (N+T)))=bd at e|-;clear j i m;generalize mV u a b=x at e B an;refine aC ?_;go_wp2_with fail;refine bu (S:=QS w x) (ls:=[10]) kr ?_;have o:=e.drew;clear e;generalize bd.drew=bt at o|-;have e:=o;clear o;have i:Hid (∀f,QS w x f->f.cell? ⟨w.heap.size,d,none⟩=some (Qa Qf (V (x.getD d 0)))):=λf h=>mY h.1 d oo
 have m:Hid (∀f,QS w x f->f.cell? ⟨w.heap.size,a,none⟩=some (Qa Qf (V (x.getD a 0)))):=λf h=>mY h.1 a oo
 have j:Hid (mU x d a 8=x.set d (ig (x.getD d 0^^^x.getD a 0) 8)):=rfl;generalize x.getD d 0=E at i j;generalize x.getD a 0=I at m j;refine ac 0 58 (v:=Qa Qg d) e ?_ ?_
 .exact λf _=>rfl
 refine ac 1 59 (v:=Qa Qg d) e ?_ ?_
 .exact λf _=>rfl
 refine ae 2 60 (v:=Qc (some ⟨w.heap.size,d,none⟩)) e ?_;simp only[qQ];refine ac 3 61 (v:=Qa Qf (V E)) e ?_ ?_
 ·(intro f g;have n:=i.out f g;clear g;go_simp;try (with_reducible rfl))
 refine ac 4 62 (v:=Qa Qg a) e ?_ ?_
 .exact λf _=>rfl
 refine ae 5 63 (v:=Qc (some ⟨w.heap.size,a,none⟩)) e ?_;simp only[qQ];refine ac 6 64 (v:=Qa Qf (V I)) e ?_ ?_
 ·(intro f g;have n:=m.out f g;clear g;go_simp;try (with_reducible rfl))
 refine ac 7 65 (v:=Qa Qf (V (E^^^I))) e ?_ ?_
 ·(intro f g;clear g;go_simp;rw[Iq])
 simp only[qQ];refine aF 8 λK k=>?_
 go_simp;go_wp2_with (go_at_call 260;refine mo (IQ (E^^^I) 8 _ oo oo) λa6 A=>?_);have q:=e.keep A;refine k.out _ _ q ?_;try simp only[qQ]
 clear k K A e;have e:=q;clear q;refine ae 9 67 (v:=Qc (some ⟨w.heap.size,d,none⟩)) e ?_;try simp only[qQ]
 refine eF 10 λK k=>?_
 have p:=e.1.frozen d;have n:=i.out _ e;go_simp;refine k.out _ _ ?_;clear k K p n;replace e:=e.set d (ig (E^^^I) 8);have ao:(mU x d a 8).length=16:=by rw[xn];exact an
 rw[<-j.out]at e;skip;replace e:=e;generalize a6.setCell ⟨w.heap.size,d,none⟩ (Qa Qf (V (ig (E^^^I) 8)))=bh at e|-;clear j i m;generalize mU x d a 8=y at e B ao;refine aC ?_;go_wp2_with fail;refine bu (S:=QS w y) (ls:=[9]) kr ?_;have o:=e.drew;clear e;generalize bh.drew=a3 at o|-;have e:=o;clear o;have i:Hid (∀f,QS w y f->f.cell? ⟨w.heap.size,c,none⟩=some (Qa Qf (V (y.getD c 0)))):=λf h=>mY h.1 c oo
 have m:Hid (∀f,QS w y f->f.cell? ⟨w.heap.size,d,none⟩=some (Qa Qf (V (y.getD d 0)))):=λf h=>mY h.1 d oo
 have j:Hid (mV y c d=y.set c (y.getD c 0+y.getD d 0)):=rfl;generalize y.getD c 0=O at i j;generalize y.getD d 0=W at m j;refine ac 0 68 (v:=Qa Qg c) e ?_ ?_
 .exact λf _=>rfl
 refine ac 1 69 (v:=Qa Qg c) e ?_ ?_
 .exact λf _=>rfl
 refine ae 2 70 (v:=Qc (some ⟨w.heap.size,c,none⟩)) e ?_;simp only[qQ];refine ac 3 71 (v:=Qa Qf (V O)) e ?_ ?_
 ·(intro f g;have n:=i.out f g;clear g;go_simp;try (with_reducible rfl))
 refine ac 4 72 (v:=Qa Qg d) e ?_ ?_
 .exact λf _=>rfl
 refine ae 5 73 (v:=Qc (some ⟨w.heap.size,d,none⟩)) e ?_;simp only[qQ];refine ac 6 74 (v:=Qa Qf (V W)) e ?_ ?_
 ·(intro f g;have n:=m.out f g;clear g;go_simp;try (with_reducible rfl))
 refine ac 7 75 (v:=Qa Qf (V (O+W))) e ?_ ?_
 ·(intro f g;clear g;go_simp;first|rw[Cr]|rw[Bj])
 refine ae 8 76 (v:=Qc (some ⟨w.heap.size,c,none⟩)) e ?_;simp only[qQ];refine eF 9 λK k=>?_
 have p:=e.1.frozen c;have n:=i.out _ e;go_simp;refine k.out _ _ ?_;clear k K p n;replace e:=e.set c (O+W);have ap:(mV y c d).length=16:=by rw[xo];exact ao
 rw[<-j.out]at e;skip;replace e:=e;generalize a3.setCell ⟨w.heap.size,c,none⟩ (Qa Qf (V (O+W)))=bi at e|-;clear j i m;generalize mV y c d=z at e B ap;refine aC ?_;go_wp2_with fail;refine bu (S:=QS w z) (ls:=[10]) kr ?_;have o:=e.drew;clear e;generalize bi.drew=bx at o|-;have e:=o;clear o;have i:Hid (∀f,QS w z f->f.cell? ⟨w.heap.size,b,none⟩=some (Qa Qf (V (z.getD b 0)))):=λf h=>mY h.1 b oo
 have m:Hid (∀f,QS w z f->f.cell? ⟨w.heap.size,c,none⟩=some (Qa Qf (V (z.getD c 0)))):=λf h=>mY h.1 c oo
 have j:Hid (mU z b c 7=z.set b (ig (z.getD b 0^^^z.getD c 0) 7)):=rfl;generalize z.getD b 0=F at i j;generalize z.getD c 0=J at m j;refine ac 0 77 (v:=Qa Qg b) e ?_ ?_
 .exact λf _=>rfl
 refine ac 1 78 (v:=Qa Qg b) e ?_ ?_
 .exact λf _=>rfl
 refine ae 2 79 (v:=Qc (some ⟨w.heap.size,b,none⟩)) e ?_;simp only[qQ];refine ac 3 80 (v:=Qa Qf (V F)) e ?_ ?_
 ·(intro f g;have n:=i.out f g;clear g;go_simp;try (with_reducible rfl))
 refine ac 4 81 (v:=Qa Qg c) e ?_ ?_
 .exact λf _=>rfl
 refine ae 5 82 (v:=Qc (some ⟨w.heap.size,c,none⟩)) e ?_;simp only[qQ];refine ac 6 83 (v:=Qa Qf (V J)) e ?_ ?_
 ·(intro f g;have n:=m.out f g;clear g;go_simp;try (with_reducible rfl))
 refine ac 7 84 (v:=Qa Qf (V (F^^^J))) e ?_ ?_
 ·(intro f g;clear g;go_simp;rw[Iq])
 simp only[qQ];refine aF 8 λK k=>?_
 go_simp;go_wp2_with (go_at_call 260;refine mo (IQ (F^^^J) 7 _ oo oo) λa7 A=>?_);have q:=e.keep A;refine k.out _ _ q ?_;try simp only[qQ]
 clear k K A e;have e:=q;clear q;refine ae 9 86 (v:=Qc (some ⟨w.heap.size,b,none⟩)) e ?_;try simp only[qQ]
 refine eF 10 λK k=>?_
 have p:=e.1.frozen b;have n:=i.out _ e;go_simp;refine k.out _ _ ?_;clear k K p n;replace e:=e.set b (ig (F^^^J) 7);have ax:(mU z b c 7).length=16:=by rw[xn];exact ap
 rw[<-j.out]at e;skip;replace e:=e;generalize a7.setCell ⟨w.heap.size,b,none⟩ (Qa Qf (V (ig (F^^^J) 7)))=bz at e|-;clear j i m;generalize mU z b c 7=L8 at e B ax;refine aC ?_;have X:=Vz ax;have g0:=e.1;have g1:=e.2.1;unfold Blk at g0 g1;go_wp2_with (first
  |(refine ld pZ rfl rfl w.heap.size rfl g0 X ?_)
  |(refine st pZ rfl rfl (w.heap.size+1) rfl rfl g1 X rfl (tU _) ?_))
 rw[<-show L8=R from B.out];refine bodyPost_ret (v:=Qe (Vs L8)) ?_ rfl ⟨rfl,Qx e.2.2 oo _⟩;exact rr pZ rfl rfl (e.2.1.row _) X
def oc(l:List (BitVec 32)):Nat->List (BitVec 32)
 |0=>l
 |k+1=>aN (oc l k) k (4+k) (8+k) (12+k)
def mD(l:List (BitVec 32)):Nat->List (BitVec 32)
 |0=>l
 |k+1=>aN (mD l k) k (4+(k+1)%4) (8+(k+2)%4) (12+(k+3)%4)
theorem wB(l:List (BitVec 32)):∀k,(oc l k).length=l.length
 |0=>rfl
 |k+1=>by rw[oc,dh,wB l k]
theorem AH(l:List (BitVec 32)):∀k,(mD l k).length=l.length
 |0=>rfl
 |k+1=>by rw[mD,dh,AH l k]
theorem Sc(l:List (BitVec 32)):uY l=mD (oc l 4) 4:=rfl
def ob(W:Nat->BitVec 32):Nat->List UInt8
 |0=>[]
 |k+1=>ob W k++dj (W k).toNat 4
theorem mB(W:Nat->BitVec 32):∀k,(ob W k).length=4*k
 |0=>rfl
 |k+1=>by rw[ob,List.length_append,mB W k,cJ];omega
theorem WX(l:Qu)(off:Nat)(x:BitVec 32)(k j:Nat)(h:off+k<=l.length):(pK l off x k).getD j 0=if off<=j/\j<off+k then qU x (j-off)else l.getD j 0:=by
 induction k with
 |zero=>rw[pK,if_neg oo]
 |succ k b=>
  rw[pK];by_cases e:off+k=j
  .subst e;rw[xr _ _ _ _ (by rw[yv];omega),if_pos oo,show off+k-off=k by omega]
  .rw[vh _ _ _ _ _ e,b oo];by_cases a:off<=j/\j<off+k
   .rw[if_pos a,if_pos oo]
   .rw[if_neg a,if_neg oo]
theorem Fi(W:Nat->BitVec 32):∀(k j:Nat),k<=16->j<4*k->(gU W k).getD j 0=qU (W (j/4)) (j%4)
 |0,j,_,h=>by omega
 |k+1,j,b,h=>by
  rw[gU,WX _ _ _ _ _ (by rw[nE];omega)];by_cases a:k*4<=j/\j<k*4+4
  .rw[if_pos a,show j/4=k by omega,show j-k*4=j%4 by omega]
  .rw[if_neg a,Fi W k j (by omega) (by omega)]
theorem Db(n k j:Nat)(h:j<k):(dj n k).getD j 0=QD (n/256^j%256):=by
 induction k with
 |zero=>omega
 |succ k a=>
  rw[dj];by_cases e:j<k
  .rw[Qk,Qp (by rw[cJ];exact e),<-Qk,a e]
  .rw[Qk,Qo (by rw[cJ];omega),cJ,show j-k=0 by omega,show j=k by omega];rfl
theorem Pr(x:BitVec 32)(j:Nat):qU x j=QD (x.toNat/256^j%256):=by
 unfold qU;rw[BitVec.toNat_ushiftRight,Nat.shiftRight_eq_div_pow,Nat.pow_mul,show (2:Nat)^8=256 by decide];apply UInt8.toNat_inj.1
 rw[QC,QC];omega
theorem GN(W:Nat->BitVec 32):∀(k j:Nat),j<4*k->(ob W k).getD j 0=qU (W (j/4)) (j%4)
 |0,j,h=>by omega
 |k+1,j,h=>by
  rw[ob];by_cases e:j<4*k
  .rw[Qk,Qp (by rw[mB];exact e),<-Qk,GN W k j e]
  .rw[Qk,Qo (by rw[mB];omega),mB,<-Qk,Db _ _ _ (by omega),show j/4=k by omega,show j-4*k=j%4 by omega,Pr]
theorem Se(W:Nat->BitVec 32):ob W 16=gU W 16:=by
 apply List.ext_getElem?
 intro j;by_cases h:j<64
 .have a:j<(ob W 16).length:=by rw[mB];omega
  have h2:j<(gU W 16).length:=by rw[nE];omega
  have e:=(GN W 16 j oo).trans (Fi W 16 j oo oo).symm;rw[Qk,Qk,Qm a,Qm h2]at e;rw[Qm a,Qm h2];exact congrArg some e
 .rw[Qq (by rw[mB];omega),Qq (by rw[nE];omega)]
theorem SB(s:Qb)(o:Nat)(w:Qy)(h:o+4<=s.size):
  Rw 236 #[Qd (s.extract o (o+4))] w (Qa Qf (V (kw s o))):=by
 refine acc (s.extract o (o+4)) (λi=>s.data.toList.getD (o+i) 0) w (by simp;omega) λi a=>?_
 rw[<-gh _ _ (by simp;omega),<-gh s (o+i) oo];simp[ByteArray.getElem_eq_getElem_data]
theorem PE(l:List (BitVec 32))(k:Nat)(w:Qy)(a:l.length=16)(b:k<4):
  Rw 237 #[Qe (Vs l),Qa Qg k,Qa Qg (4+(k:Int)),Qa Qg (8+(k:Int)),Qa Qg (12+(k:Int))] w (Qe (Vs (aN l k (4+k) (8+k) (12+k)))):=by
 have:=xY l k (4+k) (8+k) (12+k) w a oo oo oo oo oo oo;rw[show ((4+k:Nat):Int)=4+(k:Int) by omega,show ((8+k:Nat):Int)=8+(k:Int) by omega,show ((12+k:Nat):Int)=12+(k:Int) by omega]at this;exact this
theorem SW(t n:Qb)(c:Nat)(w:Qy)(hk:t.size=32)(hn:n.size=12)(hc:c<=1000000):
  Rw 196 #[Qd t,Qa Qg c,Qd n] w (Qd ⟨(fm t (Qt 32 c) n).toArray⟩):=by
 have HK:Hid (∀k,k<8->kw t (k*4)=fX t (Qt 32 c) n (4+k)):=λk h=>Lz t n _ k h
 have HN:Hid (∀k,k<3->kw n (k*4)=fX t (Qt 32 c) n (13+k)):=λk h=>FU t n _ k h
 have HC:Hid (Qt 32 c=fX t (Qt 32 c) n 12):=FV t n _;have HF:Hid (F16=Vs (cL (fX t (Qt 32 c) n) 4)):=WT t n _;generalize hW:fX t (Qt 32 c) n=W at HK HN HC HF;have P:Hid (fm t (Qt 32 c) n=ob (λi=>(js (cL W 16) 10).getD i 0+W i) 16):=by
  subst hW;exact(Se _).symm
 clear hW;generalize fm t (Qt 32 c) n=R at P|-;have hz:=Sm;have B1:Hid (∀a:Qy,(Instr.build 203 #[(0,Qa Qf 1634760805),(1,Qa Qf 857760878),(2,Qa Qf 2036477234),(3,Qa Qf 1797285236)]).run Tryz.prog a=.ok (Qe (Vs (cL W 4))) a):=λa=>by rw[<-HF.out];exact run_build _ _ _ _ kr
 clear HF;have e4:(Vs (cL W 4)).size=16:=by rw[Bi,iK]
 have T:=Blk.new w (Vs nS) 203;have f:=T.row (Vs (cL W 4));have b:QA w.heap.size w ((w.alloc (QB (Vs nS) 203)).setRow w.heap.size (Vs (cL W 4))):=Qx (bR.alloc nR _) nR _;unfold Blk at T;go_enter Tryz.func196,Tryz.ntmps196;go_wp2_with (first
  |(refine iA rfl 203 _ rfl [(0,Qa Qf 1634760805),(1,Qa Qf 857760878),(2,Qa Qf 2036477234),(3,Qa Qf 1797285236)] rfl _ (B1.out _) ?_)
  |(refine st pZ rfl rfl w.heap.size rfl rfl T e4 rfl (tU _) ?_))
 clear T B1;generalize (w.alloc (QB (Vs nS) 203)).setRow w.heap.size (Vs (cL W 4))=w1 at f b|-;go_loopw [8] (λi wr=> ∃k:Nat,k<=8/\i=Qa Qg k/\Blk wr w.heap.size (Vs (cL W (4+k))) 203/\QA w.heap.size w wr) (λi _=>8-(Qz i).toNat)
 case atStart=>exact⟨0,oo,rfl,f,b⟩
 case round=>
  clear f b;obtain⟨k,bb,rfl,f,b⟩:=hrel;by_cases ag:k<8
  .have i0:(k:Int)<8:=oo
   go_wp2_with fail;refine mo (SB t (4*k) _ oo) λw2 N=>?_;replace f:=f.keep N;replace b:=b.trans (N.mono b.size);rw[show kw t (4*k)=W (4+k)from by rw[Nat.mul_comm];exact HK.out k ag];have j:=f.cell (4+k);rw[ui _ _ (by rw[iK];omega)]at j;have g2:=f.frozen (4+k);have I:=rM (w:=w) (B:=w.heap.size) (k:=4+k) (x:=W (4+k)) oo f nR b rfl;go_wp2;go_roundw
   case rel=>exact⟨k+1,oo,by go_num,I.1,I.2.2⟩
   case measure=>simp[Qz];omega
  .have a4:k=8:=oo
   subst a4;rw[show ((8:Nat):Int)=8 from rfl];have j:=f.cell 12;rw[ui _ _ (by rw[iK];omega)]at j;have g2:=f.frozen 12;have az:(c:Int)%4294967296=V (W 12):=by rw[<-HC.out,<-TJ c oo];omega
   have a0:Qf.wrap (c:Int)=V (W 12):=by rw[Qj];exact az
   have I:=rM (w:=w) (B:=w.heap.size) (k:=12) (x:=W 12) oo f nR b rfl;go_wp2;generalize wr.setCell ⟨w.heap.size,12,none⟩ (Qa Qf (V (W 12)))=wq at I|-;obtain⟨ax,_,ap⟩:=I;clear j g2 f b az a0;go_loopw [9] (λi wr=> ∃k:Nat,k<=3/\i=Qa Qg k/\Blk wr w.heap.size (Vs (cL W (13+k))) 203/\QA w.heap.size w wr) (λi _=>3-(Qz i).toNat)
   case atStart=>exact⟨0,oo,rfl,ax,ap⟩
   case round=>
    clear ax ap;obtain⟨k,ba,rfl,f,b⟩:=hrel;by_cases ag:k<3
    .have i0:(k:Int)<3:=oo
     go_wp2_with fail;refine mo (SB n (4*k) _ oo) λw2 N=>?_;replace f:=f.keep N;replace b:=b.trans (N.mono b.size);rw[show kw n (4*k)=W (13+k)from by rw[Nat.mul_comm];exact HN.out k ag];have j:=f.cell (13+k);rw[ui _ _ (by rw[iK];omega)]at j;have g2:=f.frozen (13+k);have I:=rM (w:=w) (B:=w.heap.size) (k:=13+k) (x:=W (13+k)) oo f nR b rfl;go_wp2;go_roundw
     case rel=>exact⟨k+1,oo,by go_num,I.1,I.2.2⟩
     case measure=>simp[Qz];omega
    .have a2:k=3:=oo
     subst a2;rw[show ((3:Nat):Int)=3 from rfl];rw[show 13+3=16 from rfl]at f;have hX:=Qh λi hi=>GM W i hi
     have lX:=iK W 16;generalize cL W 16=X at f P hX lX;have sX:=Vz lX;have p:=f;have gn:=Blk.new wr (Vs nS) 203;have ay:=f.alloc (QB (Vs nS) 203);have a6:=f.lt;have d:Blk ((wr.alloc (QB (Vs nS) 203)).setRow wr.heap.size (Vs X)) wr.heap.size (Vs X) 203:=gn.row _;have e:Blk ((wr.alloc (QB (Vs nS) 203)).setRow wr.heap.size (Vs X)) w.heap.size (Vs X) 203:=ay.other oo _;have ah:QA w.heap.size w ((wr.alloc (QB (Vs nS) 203)).setRow wr.heap.size (Vs X)):=Qx (b.alloc b.size _) b.size _;unfold Blk at p gn;clear ay;go_wp2_with (first
      |(refine ld pZ rfl rfl w.heap.size rfl p sX ?_)
      |(refine st pZ rfl rfl wr.heap.size rfl rfl gn sX rfl (tU _) ?_))
     clear p gn f;generalize (wr.alloc (QB (Vs nS) 203)).setRow wr.heap.size (Vs X)=w3 at d e ah|-;generalize wr.heap.size=q at d a6|-;clear b;go_loopw [11] (λi wy=> ∃k:Nat,k<=10/\i=Qa Qg k/\Blk wy q (Vs (js X k)) 203/\Blk wy w.heap.size (Vs X) 203/\QA w.heap.size w wy) (λi _=>10-(Qz i).toNat)
     case atStart=>exact⟨0,oo,rfl,d,e,ah⟩
     case round=>
      clear d e ah;obtain⟨r,hr,rfl,d,e,b⟩:=hrel;by_cases ag:r<10
      .have r0:(r:Int)<10:=oo
       have O:(js X r).length=16:=by rw[ru,lX]
       have HT:Hid (js X (r+1)=mD (oc (js X r) 4) 4):=Sc _;generalize js X r=Y at d O HT;go_wp2_with fail;go_loopw [12] (λi G=> ∃k:Nat,k<=4/\i=Qa Qg k/\Blk G q (Vs (oc Y k)) 203/\Blk G w.heap.size (Vs X) 203/\QA w.heap.size w G) (λi _=>4-(Qz i).toNat)
       case atStart=>exact⟨0,oo,rfl,d,e,b⟩
       case round=>
        clear d e b;obtain⟨k,a3,rfl,d,e,b⟩:=hrel;by_cases ad:k<4
        .have M:(k:Int)<4:=oo
         have u:(oc Y k).length=16:=by rw[wB,O]
         have g:Hid (oc Y (k+1)=aN (oc Y k) k (4+k) (8+k) (12+k)):=rfl;generalize oc Y k=Z at d u g;have F:=Vz u;have y:=Qr λa=>PE Z k a u ad
         have E:(aN Z k (4+k) (8+k) (12+k)).length=16:=by rw[dh,u]
         generalize aN Z k (4+k) (8+k) (12+k)=Q at y E g;have H:=Vz E;have p:=d;unfold Blk at p;go_wp2_with (refine ld pZ rfl rfl q rfl p F ?_);clear p;refine gv y λw5 m=>?_
         replace d:=d.keep m;replace e:=e.keep m;replace b:=b.trans (m.mono b.size);have j:=d;unfold Blk at j;go_wp2_with (refine st pZ rfl rfl q rfl rfl j H F (tU _) ?_);go_roundw
         case rel=>
          refine⟨k+1,oo,by go_num,?_,e.other oo _,Qx b oo _⟩;rw[g.out];exact d.row _
         case measure=>simp[Qz];omega
        .have ao:k=4:=oo
         subst ao;rw[show ((4:Nat):Int)=4 from rfl];have lC:(oc Y 4).length=16:=by rw[wB,O]
         generalize oc Y 4=C at d HT lC;go_wp2_with fail;go_loopw [13] (λi G=> ∃k:Nat,k<=4/\i=Qa Qg k/\Blk G q (Vs (mD C k)) 203/\Blk G w.heap.size (Vs X) 203/\QA w.heap.size w G) (λi _=>4-(Qz i).toNat)
         case atStart=>exact⟨0,oo,rfl,d,e,b⟩
         case round=>
          clear d e b;obtain⟨k,a3,rfl,d,e,b⟩:=hrel;by_cases ad:k<4
          .have u:(mD C k).length=16:=by rw[AH,lC]
           have g:Hid (mD C (k+1)=aN (mD C k) k (4+(k+1)%4) (8+(k+2)%4) (12+(k+3)%4)):=rfl;generalize mD C k=Z at d u g;have F:=Vz u;have p:=d;unfold Blk at p;have a5:k=0\/k=1\/k=2\/k=3:=oo
           rcases a5 with rfl|rfl|rfl|rfl
           .rw[show ((0:Nat):Int)=0 from rfl];have y:Hid (Rv 237 #[Qe (Vs Z),Qa Qg 0,Qa Qg 5,Qa Qg 10,Qa Qg 15] (Qe (Vs (aN Z 0 5 10 15)))):=λa=>xY Z 0 5 10 15 a u oo oo oo oo oo oo
            have E:(aN Z 0 5 10 15).length=16:=by rw[dh,u]
            replace g:=g;generalize aN Z 0 5 10 15=Q at y E g;have H:=Vz E;go_wp2_with (refine ld pZ rfl rfl q rfl p F ?_);clear p;refine gv y λw5 m=>?_
            replace d:=d.keep m;replace e:=e.keep m;replace b:=b.trans (m.mono b.size);have j:=d;unfold Blk at j;go_wp2_with (refine st pZ rfl rfl q rfl rfl j H F (tU _) ?_);go_roundw
            case rel=>
             refine⟨1,oo,by go_num,?_,e.other oo _,Qx b oo _⟩;rw[g.out];exact d.row _
            case measure=>simp[Qz]
           .rw[show ((1:Nat):Int)=1 from rfl];have y:Hid (Rv 237 #[Qe (Vs Z),Qa Qg 1,Qa Qg 6,Qa Qg 11,Qa Qg 12] (Qe (Vs (aN Z 1 6 11 12)))):=λa=>xY Z 1 6 11 12 a u oo oo oo oo oo oo
            have E:(aN Z 1 6 11 12).length=16:=by rw[dh,u]
            replace g:=g;generalize aN Z 1 6 11 12=Q at y E g;have H:=Vz E;go_wp2_with (refine ld pZ rfl rfl q rfl p F ?_);clear p;refine gv y λw5 m=>?_
            replace d:=d.keep m;replace e:=e.keep m;replace b:=b.trans (m.mono b.size);have j:=d;unfold Blk at j;go_wp2_with (refine st pZ rfl rfl q rfl rfl j H F (tU _) ?_);go_roundw
            case rel=>
             refine⟨2,oo,by go_num,?_,e.other oo _,Qx b oo _⟩;rw[g.out];exact d.row _
            case measure=>simp[Qz]
           .rw[show ((2:Nat):Int)=2 from rfl];have y:Hid (Rv 237 #[Qe (Vs Z),Qa Qg 2,Qa Qg 7,Qa Qg 8,Qa Qg 13] (Qe (Vs (aN Z 2 7 8 13)))):=λa=>xY Z 2 7 8 13 a u oo oo oo oo oo oo
            have E:(aN Z 2 7 8 13).length=16:=by rw[dh,u]
            replace g:=g;generalize aN Z 2 7 8 13=Q at y E g;have H:=Vz E;go_wp2_with (refine ld pZ rfl rfl q rfl p F ?_);clear p;refine gv y λw5 m=>?_
            replace d:=d.keep m;replace e:=e.keep m;replace b:=b.trans (m.mono b.size);have j:=d;unfold Blk at j;go_wp2_with (refine st pZ rfl rfl q rfl rfl j H F (tU _) ?_);go_roundw
            case rel=>
             refine⟨3,oo,by go_num,?_,e.other oo _,Qx b oo _⟩;rw[g.out];exact d.row _
            case measure=>simp[Qz]
           .rw[show ((3:Nat):Int)=3 from rfl];have y:Hid (Rv 237 #[Qe (Vs Z),Qa Qg 3,Qa Qg 4,Qa Qg 9,Qa Qg 14] (Qe (Vs (aN Z 3 4 9 14)))):=λa=>xY Z 3 4 9 14 a u oo oo oo oo oo oo
            have E:(aN Z 3 4 9 14).length=16:=by rw[dh,u]
            replace g:=g;generalize aN Z 3 4 9 14=Q at y E g;have H:=Vz E;go_wp2_with (refine ld pZ rfl rfl q rfl p F ?_);clear p;refine gv y λw5 m=>?_
            replace d:=d.keep m;replace e:=e.keep m;replace b:=b.trans (m.mono b.size);have j:=d;unfold Blk at j;go_wp2_with (refine st pZ rfl rfl q rfl rfl j H F (tU _) ?_);go_roundw
            case rel=>
             refine⟨4,oo,by go_num,?_,e.other oo _,Qx b oo _⟩;rw[g.out];exact d.row _
            case measure=>simp[Qz]
          .have ao:k=4:=oo
           subst ao;rw[show ((4:Nat):Int)=4 from rfl];rw[<-HT.out]at d;go_wp2_with fail;go_roundw
           case rel=>exact⟨r+1,oo,by go_num,d,e,b⟩
           case measure=>simp[Qz];omega
      .have a7:r=10:=oo
       subst a7;rw[show ((10:Nat):Int)=10 from rfl];have O:(js X 10).length=16:=by rw[ru,lX]
       generalize js X 10=Y at d O P;go_wp2_with fail;go_loopw [14,15] (λs i G=> ∃k:Nat,k<=16/\i=Qa Qg k/\s=Qd ⟨(ob (λi=>Y.getD i 0+W i) k).toArray⟩/\Blk G q (Vs Y) 203/\Blk G w.heap.size (Vs X) 203/\QA w.heap.size w G) (λ_ i _=>16-(Qz i).toNat)
       case atStart=>exact⟨0,oo,rfl,rfl,d,e,b⟩
       case round=>
        clear d e b;obtain⟨k,a8,rfl,rfl,d,e,b⟩:=hrel;by_cases ad:k<16
        .have M:(k:Int)<16:=oo
         have L:Hid (ob (λi=>Y.getD i 0+W i) (k+1)=ob (λi=>Y.getD i 0+W i) k++dj (Y.getD k 0+W k).toNat 4):=rfl;have lo:=mB (λi=>Y.getD i 0+W i) k;have cX:Hid (∀a,(λa=>Blk a q (Vs Y) 203/\Blk a w.heap.size (Vs X) 203/\QA w.heap.size w a) a->a.cell? ⟨w.heap.size,k,none⟩=some (Qa Qf (V (W k)))):=λa h=>by have:=mY h.2.1 k oo;rw[hX.out k ad]at this;exact this
         have cY:Hid (∀a,(λa=>Blk a q (Vs Y) 203/\Blk a w.heap.size (Vs X) 203/\QA w.heap.size w a) a->a.cell? ⟨q,k,none⟩=some (Qa Qf (V (Y.getD k 0)))):=λa h=>mY h.1 k oo
         generalize ob (λi=>Y.getD i 0+W i) k=o at lo L|-;generalize Y.getD k 0=D at cY L;generalize W k=A at cX L;rw[show D+A=A+D from BitVec.add_comm _ _]at L;have HB:=Qr λa=>mN (V (A+D)) 4 (A+D).toNat 4 rfl rfl (by have:=(A+D).isLt;omega) oo a
         have ew:Qg.wrap (V (A+D))=V (A+D):=by have h1:=XR (A+D);have h2:=XT (A+D);rw[Qi];omega
         have lB:=cJ (A+D).toNat 4;generalize dj (A+D).toNat 4=B at HB L lB;have a9:Op.stringOp .add ⟨o.toArray⟩ ⟨B.toArray⟩=pure (Qd ⟨(o++B).toArray⟩):=by
          rw[bB _ _ (by show o.toArray.size+B.toArray.size<=_;rw[Qn,Qn];omega)];exact congrArg (λz=>pure (Qd z)) (ByteArray.mk_append_mk o B)
         have ab:(λa=>Blk a q (Vs Y) 203/\Blk a w.heap.size (Vs X) 203/\QA w.heap.size w a) wr:=⟨d,e,b⟩;clear d e b;go_wp2_with fail;refine bu (S:=(λa=>Blk a q (Vs Y) 203/\Blk a w.heap.size (Vs X) 203/\QA w.heap.size w a)) (ls:=[]) kr ?_;have l:(λa=>Blk a q (Vs Y) 203/\Blk a w.heap.size (Vs X) 203/\QA w.heap.size w a) wr.drew:=⟨ab.1.drew,ab.2.1.drew,ab.2.2.drew⟩;clear ab;generalize wr.drew=wd at l|-;refine ac 0 91 (v:=Qd ⟨o.toArray⟩) l ?_ ?_
         .exact λa _=>rfl
         refine ac 1 92 (v:=Qa Qg k) l ?_ ?_
         .exact λa _=>rfl
         refine ae 2 93 (v:=Qc (some ⟨w.heap.size,k,none⟩)) l ?_;simp only[qQ];refine ac 3 94 (v:=Qa Qf (V A)) l ?_ ?_
         ·(intro a J;have cc:=cX.out a J;clear J;go_simp;try (with_reducible rfl))
         refine ac 4 95 (v:=Qa Qg k) l ?_ ?_
         .exact λa _=>rfl
         refine ae 5 96 (v:=Qc (some ⟨q,k,none⟩)) l ?_;simp only[qQ];refine ac 6 97 (v:=Qa Qf (V D)) l ?_ ?_
         ·(intro a J;have cc:=cY.out a J;clear J;go_simp;try (with_reducible rfl))
         refine ac 7 98 (v:=Qa Qf (V (A+D))) l ?_ ?_
         ·(intro a J;clear J;go_simp;first|rw[Cr]|rw[Bj])
         refine ae 8 99 (v:=Qa Qg (V (A+D))) l ?_;simp only[qQ];refine aF 9 λK hK=>?_
         go_simp;go_wp2_with (go_at_call 75;refine gv HB λwf M=>?_);have an:(λa=>Blk a q (Vs Y) 203/\Blk a w.heap.size (Vs X) 203/\QA w.heap.size w a) wf:=⟨l.1.keep M,l.2.1.keep M,l.2.2.trans (M.mono l.2.2.size)⟩;refine hK.out _ _ an ?_;try simp only[qQ]
         clear hK K M l;have l:=an;clear an;refine ae 10 101 (v:=Qd ⟨(o++B).toArray⟩) l ?_;refine ac 11 14 (v:=Qd ⟨(o++B).toArray⟩) l ?_ ?_
         .exact λa _=>rfl
         try simp only[qQ]
         refine aC ?_;go_wp2_with fail;go_roundw
         case rel=>
          refine⟨k+1,oo,by go_num,?_,l.1,l.2.1,l.2.2⟩;rw[L.out]
         case measure=>simp[Qz];omega
        .have a1:k=16:=oo
         subst a1;rw[<-P.out];go_wp2;go_ret;exact⟨rfl,b⟩
theorem SP(b a data:Qb)(w:Qy)(W:b.size=32)(hn:a.size=12)(hd:data.size<=1000000):
  Rw 149 #[Qd b,Qd a,Qd data] w (Qd (bQ b a data)):=by
 obtain⟨cap,w1,P,c,e⟩:=bytesOf data w.heap.size w nR;replace c:=c.at;have L:=Qh λx u h=>SW b a x u W hn h
 have q:=Qh (p:=bQ b a data=⟨(dR (kQ b a) data.data.toList data.size).toArray⟩) rfl
 have s:data.data.toList.length=data.size:=ss
 generalize bQ b a data=R at q|-;generalize data.data.toList=l at q c s;go_enter Tryz.func149,Tryz.ntmps149;go_wp2_with fail;clear P;go_loopw [8] (λi wr=> ∃j:Nat,64*j<data.size+64/\i=Qa Qg (64*j:Nat)/\OwnR wr w.heap.size cap (dR (kQ b a) l (64*j))/\QA w.heap.size w wr) (λi _=>data.size+64-(Qz i).toNat)
 case atStart=>exact⟨0,oo,rfl,by rw[Nat.mul_zero,DN];exact c,e⟩
 case round=>
  clear c e w1;obtain⟨j,Q,rfl,c,e⟩:=hrel;by_cases Z:64*j<data.size
  .have ab:=c.lt;have T:j+1<=1000000:=oo
   generalize E:64*j=d at Q Z c;have f:=Qh E;have O:1+(d:Int)/64=(j:Int)+1:=oo
   have N:Hid (Rv 196 #[Qd b,Qa Qg ((j:Int)+1),Qd a] (Qd ⟨(fm b (Qt 32 (j+1)) a).toArray⟩)):=λu=>L.out (j+1) u T
   clear E;go_wp2_with fail;refine gv N λw2 r=>?_
   have I:(fm b (Qt 32 (j+1)) a).length=64:=uz _ _ _;have v:Hid (∀i,i<64->(fm b (Qt 32 (j+1)) a).getD i 0=kQ b a (d+i)):=λi G=>by
    unfold kQ;rw[show (d+i)/64=j by have:=f.out;omega,show (d+i)%64=i by have:=f.out;omega]
   generalize fm b (Qt 32 (j+1)) a=M at I v|-;have J:=c.below r ab;have A:=e.trans (r.mono e.size);clear c e r O;obtain⟨m,an,ao,ap,t⟩:∃m:Nat,0<m/\m<=64/\d+m<=data.size/\(m=64\/d+m=data.size):=by
    by_cases h:d+64<=data.size
    .exact⟨64,oo,oo,oo,.inl rfl⟩
    .exact⟨data.size-d,oo,oo,oo,.inr oo⟩
   have ad:(⟨M.toArray⟩:ByteArray).size=64:=by show M.toArray.size=64;rw[Qn,I]
   have z:Hid (∀i,i<64->byt ⟨M.toArray⟩ i=((kQ b a (d+i)).toNat:Int)):=λi G=>by rw[<-v.out i G];rfl
   generalize (⟨M.toArray⟩:ByteArray)=S at ad z|-;go_wp2_with fail;go_loopw [10] (λi wr=> ∃k:Nat,k<=m/\i=Qa Qg (d+k:Nat)/\OwnR wr w.heap.size cap (dR (kQ b a) l (d+k))/\QA w.heap.size w wr) (λi _=>d+m-(Qz i).toNat)
   case atStart=>exact⟨0,Nat.zero_le _,rfl,J,A⟩
   case round=>
    clear J A;obtain⟨k,ag,rfl,c,e⟩:=hrel;generalize g:d+k=i at c;by_cases ah:k<m
    .have C:=c.cell i (by rw[kv];omega);rw[GL _ _ _ oo]at C;have h2:=c.frozen i (by rw[kv];omega);have H:=mM S (k:Int) k oo oo oo;rw[z.out k oo,g]at H;have o:Hid ((dR (kQ b a) l i).set i (l.getD i 0^^^kQ b a i)=dR (kQ b a) l (i+1)):=Fh _ _ _ oo;generalize l.getD i 0=x at C o;generalize kQ b a i=y at H o;have K:decide ((i:Int)<(d:Int)+64)=true:=decide_eq_true oo;have i2:decide ((i:Int)<(data.size:Int))=true:=decide_eq_true oo;have i3:Qg.wrap ((i:Int)-(d:Int))=(k:Int):=by rw[Qi];omega
     have i4:(i:Int)<(data.size:Int):=oo
     have i6:(0:Int)<=(i:Int):=oo
     replace g:=Qh g;go_wp2_with fail;go_region
     all_goals
      go_wp2;go_roundw
      case rel=>exact⟨k+1,oo,by have:=g.out;rw[show d+(k+1)=i+1 by omega];go_num,by have:=g.out;rw[show d+(k+1)=i+1 by omega,za,<-show _=_ from o.out];exact(c.set _ _).drew,(e.setCell nR _).drew⟩
      case measure=>have:=g.out;simp[Qz];omega
    .have X:k=m:=oo
     subst X;have B:Hid (OwnR wr w.heap.size cap (dR (kQ b a) l (64*(j+1)))):=by
      have h0:=f.out;show OwnR wr w.heap.size cap (dR (kQ b a) l (64*(j+1)))
      rcases t with h|h
      .rw[show 64*(j+1)=i by omega];exact c
      .rw[uM _ _ (64*(j+1)) oo,<-uM _ _ i oo];exact c
     have F:=Qh ((by have h0:=f.out;omega:64*(j+1)<data.size+64));by_cases D:i<d+64
     .have K:decide ((i:Int)<(d:Int)+64)=true:=decide_eq_true oo;have i2:decide ((i:Int)<(data.size:Int))=false:=decide_eq_false oo;have az:decide (i<data.size)=false:=decide_eq_false oo;have ay:¬i<data.size:=oo
      clear c t g D;go_wp2;go_roundw
      case rel=>exact⟨j+1,F.out,cH (by have:=f.out;omega),B.out,e⟩
      case measure=>simp[Qz];have:=f.out;omega
     .have K:decide ((i:Int)<(d:Int)+64)=false:=decide_eq_false oo;clear c t g D;go_wp2;go_roundw
      case rel=>exact⟨j+1,F.out,cH (by have:=f.out;omega),B.out,e⟩
      case measure=>simp[Qz];have:=f.out;omega
  .rw[uM _ _ (64*j) oo,s]at c;have ax:=lW (n:=data.size) c (by rw[kv,s]);go_wp2;go_ret;exact⟨by rw[show R=_ from q.out];rfl,e⟩
end Go.Proofs.YtclpbaokadfhhaaGreatDoor
