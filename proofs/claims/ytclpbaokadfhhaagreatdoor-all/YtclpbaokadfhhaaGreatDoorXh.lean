import Derived.Test.YtclpbaokadfhhaaGreatDoorZq
import Derived.Test.YtclpbaokadfhhaaGreatDoorYd
section
set_option maxRecDepth 100000
set_option maxHeartbeats 2000000
open Go.Value renaming string->Qa
namespace Go.Proofs.YtclpbaokadfhhaaGreatDoor
def nine:List (BitVec 64):=[9,0,0,0,0]
theorem Tj:aD nine:=⟨rfl,dk⟩
def gW(secret:List UInt8):List UInt8:=pO secret nine
theorem Hv(a:Qu):(gW a).length=32:=by unfold gW pO;exact jD _
open Go.RowKit
theorem VG(w:World):(Instr.build 69 #[(0,.int .u64 9)]).run Tryz.prog w=.ok (.agg (Ws nine)) w:=run_build w _ _ _ kr
theorem Dc(s:Qb)(w:World)(d:s.size=32):
  Rw 25 #[Qa s] w (Qa ⟨(gW s.data.toList).toArray⟩):=by
 have a:Hid (Rv 50 #[Qa s,.agg (Ws nine)] (Qa ⟨(gW s.data.toList).toArray⟩)):=λe=>Fm s _ e d rfl
 have b:=VG;generalize gW s.data.toList=R at a|-;generalize nine=V at a b;go_enter Tryz.func25,Tryz.ntmps25;go_wp2_with (refine vb rfl 69 _ rfl [(0,.int .u64 9)] rfl _ (b _) ?_);refine gv a λf c=>?_
 go_wp2;go_ret;exact⟨rfl,c⟩
theorem Ue(s:Qb)(w:World)(b:s.size=32):
  Rw 12 #[Qa s] w (.tuple #[Qa ⟨(gW s.data.toList).toArray⟩,.int .i64 0]):=by
 have d:Below w.heap.size w (w.alloc (.cells (Ss [s]) 9)):=bR.alloc nR _;have a:=nI s w oo;have f:decide (¬(s.size=32))=false:=by simp[b]
 rw[f]at a;replace a:=Qh a;have c:=Qr λh=>Dc s h b
 generalize gW s.data.toList=R at c|-;clear f b;go_enter Tryz.func12,Tryz.ntmps12;go_wp2_with fail;refine a.out.mono ?_;rintro e w' ⟨rfl,rfl⟩;go_wp2_with fail;refine gv c λi g=>?_
 go_wp2;go_ret2;exact⟨rfl,d.trans (g.mono d.size)⟩
end Go.Proofs.YtclpbaokadfhhaaGreatDoor
end
section
set_option maxRecDepth 100000
set_option maxHeartbeats 2000000
open Go.Value renaming string->Qa,int->Qc,tuple->Qd
open ByteArray renaming size_append->Qe,size_extract->Qf,append_empty->Qg,append_assoc->Qi
open Go.Op renaming stringOp->Qj
open List renaming size_toArray->Qk
open BitVec renaming ofNat->Qm
open UInt8 renaming ofNat->Qn
open Go renaming World->Qo
open Go.Proofs.Tryz renaming ntmps52->Qp,func52->Qq
namespace Go.Proofs.YtclpbaokadfhhaaGreatDoor
open Go.RowKit
theorem BP(K:Nat->BitVec 64)(a b c:Qb)(n:Nat)(h:n<=1000):(l8 K a b c n).size=n:=by
 show((fP K (iW K b a) c 16).take n).toArray.size=n
 simp[oH];omega
def aT:ByteArray:=⟨#[0,0,0,0,0,0,0,0,0,0,0,0]⟩
def uS:ByteArray:=⟨#[109,105,115,115,105,118,101,32,107,101,121]⟩
def pB:ByteArray:=⟨#[109,105,115,115,105,118,101,32,98,111,100,121]⟩
def eJ(K:Nat->BitVec 64)(ix point reader:ByteArray):ByteArray:=l8 K ix (point++reader) uS 32
def cn(K:Nat->BitVec 64)(inner:ByteArray):ByteArray:=l8 K inner ⟨#[]⟩ pB 32
def cf(s p:ByteArray):ByteArray:=⟨(ix s.data.toList p.data.toList).toArray⟩
def rk(K:Nat->BitVec 64)(reader secret point inner:ByteArray):ByteArray:=du (eJ K (cf secret reader) point reader) aT ⟨#[]⟩ inner
theorem rU(K:Nat->BitVec 64)(a p r:Qb):(eJ K a p r).size=32:=BP K _ _ _ 32 oo
theorem tc(K:Nat->BitVec 64)(i:Qb):(cn K i).size=32:=BP K _ _ _ 32 oo
theorem Dy(K:Nat->BitVec 64)(r s p i:Qb):(rk K r s p i).size=i.size+16:=qJ _ _ _ _
theorem ub(s p:Qb):(cf s p).size=32:=by
 show(ix s.data.toList p.data.toList).toArray.size=32
 rw[Qk];unfold ix;first|exact jD _|(unfold withN;exact jD _)|(simp only[jD])
def nV(s p:ByteArray):Bool:= !(ix s.data.toList p.data.toList==aq 32)
def cV(K:Nat->BitVec 64)(r s p i:ByteArray):ByteArray×Int:=if r.size=32 then(if nV s r=true then(rk K r s p i,0)else (⟨#[]⟩,2))else (⟨#[]⟩,1)
theorem Cv(K:Nat->BitVec 64)(a p r:Qb)(w:Qo)(k:a.size=32)(g:p.size=32)(i:r.size=32)(e:Tab K w):
  Rw 118 #[Qa a,Qa p,Qa r] w (Qa (eJ K a p r)):=by
 have c:Hid (Qj .add p r=pure (Qa (p++r))):=bB _ _ (by rw[g,i];omega);have d:Hid (∀b:Qo,Tab K b->Rw 59 #[Qa a,Qa (p++r),Qa uS,Qc .i64 32] b (Qa (eJ K a p r))):=λb h=>GZ K a (p++r) uS 32 b oo (by rw[Qe];omega) dd oo h
 generalize eJ K a p r=R at d|-;generalize p++r=l at c d;have j:=c.out;clear c;go_enter Tryz.func118,Tryz.ntmps118;go_wp2_with fail;refine mo (d.out _ e) λw' f=>?_;go_wp2;go_ret;exact⟨rfl,f⟩
theorem Ei(K:Nat->BitVec 64)(i:Qb)(w:Qo)(e:i.size<=1000)(c:Tab K w):
  Rw 55 #[Qa i] w (Qa (cn K i)):=by
 have b:Hid (∀a:Qo,Tab K a->Rw 59 #[Qa i,Qa ⟨#[]⟩,Qa pB,Qc .i64 32] a (Qa (cn K i))):=λa h=>GZ K i ⟨#[]⟩ pB 32 a oo dd dd oo h
 generalize cn K i=R at b|-;go_enter Tryz.func55,Tryz.ntmps55;go_wp2_with fail;refine mo (b.out _ c) λw' d=>?_;go_wp2;go_ret;exact⟨rfl,d⟩
theorem V4(K:Nat->BitVec 64)(r s p i:Qb)(w:Qo)(l:s.size=32)(k:p.size=32)(o:i.size=32)(f:Tab K w):
  Rw 52 #[Qa r,Qa s,Qa p,Qa i] w (Qd #[Qa (cV K r s p i).1,Qc .i64 (cV K r s p i).2]):=by
 by_cases b:r.size=32
 .have u:(r.size:Int)=32:=oo
  have c:Hid (Rv 29 #[Qa s,Qa r] (Qd #[Qa (cf s r),.bool (nV s r)])):=λg=>zl s r g l b
  cases d:nV s r with
  |true=>
   have a:cV K r s p i=(rk K r s p i,0):=by unfold cV;rw[if_pos b,if_pos d]
   rw[a];rw[d]at c;have m:=Qh λg h=>Cv K _ p r g (ub s r) k b h
   have n:Hid (Rv 54 #[Qa (eJ K (cf s r) p r),Qa aT,Qa ⟨#[]⟩,Qa i] (Qa (rk K r s p i))):=λg=>Cj _ _ _ _ g (rU K _ p r) rfl dd oo
   generalize rk K r s p i=R at n|-;generalize eJ K (cf s r) p r=x at m n;generalize cf s r=q at c m;replace f:=Qh f;clear a d l k o b;go_enter Qq,Qp;go_wp2_with fail;refine gv c λv e=>?_
   go_wp2_with fail;refine mo (m.out _ (f.out.below e)) λy j=>?_;replace j:=e.trans (j.mono e.size);go_wp2_with fail;refine gv n λz t=>?_
   go_wp2;go_ret2;exact⟨rfl,j.trans (t.mono j.size)⟩
  |false=>
   have a:cV K r s p i=(⟨#[]⟩,2):=by unfold cV;rw[if_pos b,if_neg (by rw[d];decide)]
   rw[a];rw[d]at c;generalize cf s r=q at c;clear a d l k o b f;go_enter Qq,Qp;go_wp2_with fail;refine gv c λv e=>?_
   go_wp2;go_ret2;exact⟨rfl,e⟩
 .have a:cV K r s p i=(⟨#[]⟩,1):=by unfold cV;rw[if_neg b]
  rw[a];have u:¬(r.size:Int)=32:=oo
  clear a l k o b f;go_enter Qq,Qp;go_wp2;go_ret2;exact⟨rfl,Below.refl _ _⟩
def lx(s:ByteArray):ByteArray:=⟨(eg (aq 4) 0 (Qm 64 s.size) 4).toArray⟩
theorem A5(s:Qb):(lx s).size=4:=by
 show(eg (aq 4) 0 (Qm 64 s.size) 4).toArray.size=4
 rw[Qk,jp];rfl
theorem aaZ(w:Qo):Sem.run Tryz.prog (zeroValue 126) w=.ok (.agg (Bs (aq 4))) w:=kr
theorem acC(s:Qb)(w:Qo)(r:s.size<=1000000):
  Rw 53 #[Qa s] w (Qa (lx s)):=by
 have u:=aaZ;have d:=Blk.new w (Bs (aq 4)) 126;have c:Below w.heap.size w (w.alloc (.cells (Bs (aq 4)) 126)):=bR.alloc nR _;have e:Hid ((s.size:Int)=U (Qm 64 s.size)):=by
  have:=wK s.size oo;exact this
 have b:=Qh (p:=lx s=⟨(eg (aq 4) 0 (Qm 64 s.size) 4).toArray⟩) rfl
 generalize lx s=R at b|-;generalize Qm 64 s.size=x at e b;have h:=Qh (p:=∀k:Nat,(s.size:Int)/2^(8*k)%256=((mE x k).toNat:Int)) (λk=>by rw[e.out,Bc])
 go_enter Tryz.func53,Tryz.ntmps53;go_wp2;generalize w.alloc (.cells (Bs (aq 4)) 126)=n at d c|-;go_loopw [5] (λi wr=> ∃k:Nat,k<=4/\i=Qc .i64 k/\Blk wr w.heap.size (Bs (eg (aq 4) 0 x k)) 126/\Below w.heap.size w wr) (λi _=>4-(intOf i).toNat)
 case atStart=>exact⟨0,oo,rfl,d,c⟩
 case round=>
  clear d c n;obtain⟨k,q,rfl,a,f⟩:=hrel;by_cases m:k<4
  .have j:=a.cell k;rw[pY _ _ (by rw[jp];exact m)]at j;have o:=a.frozen k;have v:(k:Int)<4:=oo
   go_wp2;go_roundw
   case rel=>
    refine⟨k+1,oo,gn,?_,f.setCell nR _⟩;rw[a.set,h.out,tn];have:=a.row (Bs ((eg (aq 4) 0 x k).set k (mE x k)));rw[show eg (aq 4) 0 x (k+1)=(eg (aq 4) 0 x k).set (0+k) (mE x k)from rfl,Nat.zero_add];exact this
   case measure=>simp[intOf];omega
  .have l:k=4:=oo
   subst l;have g:(eg (aq 4) 0 x 4).length=4:=by rw[jp];rfl
   generalize eg (aq 4) 0 x 4=L at a b g;have t:=gc (cap:=4) a 4 g.symm;go_wp2;go_ret;exact⟨by rw[show R=_ from b.out];rfl,f⟩
def Le_mark:ByteArray:=⟨#[77,86,49]⟩
def ya(n:Nat):ByteArray:=⟨#[Qn n]⟩
def aS(s:ByteArray):ByteArray:=⟨(gW s.data.toList).toArray⟩
def ja(K:Nat->BitVec 64)(s:ByteArray):ByteArray:=⟨(dq (aj K) s.data.toList).toArray⟩
def vU(K:Nat->BitVec 64)(s d:ByteArray):ByteArray:=⟨(nc (aj K) s.data.toList d.data.toList).toArray⟩
def zE(K:Nat->BitVec 64)(s p i:ByteArray)(R:List ByteArray):Nat->ByteArray
 |0=>⟨#[]⟩
 |k+1=>zE K s p i R k++(cV K (aM R k) s p i).1
def dB(K:Nat->BitVec 64)(s p i:ByteArray)(R:List ByteArray):Nat->Int
 |0=>0
 |k+1=>if dB K s p i R k=0 then(cV K (aM R k) s p i).2 else dB K s p i R k
theorem yr(K:Nat->BitVec 64)(s p i:Qb)(R:List ByteArray)(k:Nat)(h:¬dB K s p i R k=0):∀m,dB K s p i R (k+m)=dB K s p i R k
 |0=>rfl
 |m+1=>by
  have:=yr K s p i R k h m;show(if dB K s p i R (k+m)=0 then _ else dB K s p i R (k+m))=_
  rw[this,if_neg h]
def gq(K:Nat->BitVec 64)(adv:ByteArray)(R:List ByteArray)(k:Nat):ByteArray:=
 Le_mark++aS (adv.extract 0 32)++ya R.length++zE K (adv.extract 0 32) (aS (adv.extract 0 32)) (adv.extract 32 64) R k
def fu(K:Nat->BitVec 64)(adx:ByteArray)(R:List ByteArray)(adv data:ByteArray):ByteArray:=
 gq K adv R R.length++(ja K adx++lx data)
def fN(K:Nat->BitVec 64)(adx:ByteArray)(R:List ByteArray)(adv data:ByteArray):ByteArray:=
 fu K adx R adv data++du (cn K (adv.extract 32 64)) aT (fu K adx R adv data) data
def pA(K:Nat->BitVec 64)(adx:ByteArray)(R:List ByteArray)(adv data:ByteArray):ByteArray:=
 fN K adx R adv data++vU K adx (fN K adx R adv data)
def fU(K:Nat->BitVec 64)(adx:ByteArray)(R:List ByteArray)(adv data:ByteArray):ByteArray×Int:=
 if dB K (adv.extract 0 32) (aS (adv.extract 0 32)) (adv.extract 32 64) R R.length=0 then(pA K adx R adv data,0)else (⟨#[]⟩,dB K (adv.extract 0 32) (aS (adv.extract 0 32)) (adv.extract 32 64) R R.length)
theorem BJ(K:Nat->BitVec 64)(r s p i:Qb)(a:i.size=32):(cV K r s p i).1.size<=48:=by
 unfold cV;split
 .split
  .show(rk K r s p i).size<=48
   rw[Dy];omega
  .show(⟨#[]⟩:ByteArray).size<=48
   decide
 .show(⟨#[]⟩:ByteArray).size<=48
  decide
theorem Dz(K:Nat->BitVec 64)(s p i:Qb)(R:List ByteArray)(a:i.size=32):∀k,(zE K s p i R k).size<=48*k
 |0=>by show(⟨#[]⟩:ByteArray).size<=_;decide
 |k+1=>by
  have b:=Dz K s p i R a k;have h2:=BJ K (aM R k) s p i a;show(zE K s p i R k++(cV K (aM R k) s p i).1).size<=_
  rw[Qe];omega
theorem nN(s:Qb):(aS s).size=32:=by
 show(gW s.data.toList).toArray.size=32
 rw[Qk];unfold gW pO;exact jD _
theorem yp(K:Nat->BitVec 64)(s:Qb):(ja K s).size=32:=by
 show(dq (aj K) s.data.toList).toArray.size=32
 rw[Qk,xV]
theorem AZ(K:Nat->BitVec 64)(s d:Qb):(vU K s d).size=64:=by
 show(nc (aj K) s.data.toList d.data.toList).toArray.size=64
 rw[Qk,KT]
theorem Rz(x:Qb):x++(⟨#[]⟩:ByteArray)=x:=Qg
theorem EG(K:Nat->BitVec 64)(a:Qb)(R:List ByteArray):gq K a R 0=Le_mark++aS (a.extract 0 32)++ya R.length:=Rz _
theorem EH(K:Nat->BitVec 64)(a:Qb)(R:List ByteArray)(k:Nat):gq K a R (k+1)=gq K a R k++(cV K (aM R k) (a.extract 0 32) (aS (a.extract 0 32)) (a.extract 32 64)).1:=by
 unfold gq;rw[zE];simp only[Qi]
theorem zD(K:Nat->BitVec 64)(a:Qb)(R:List ByteArray)(k:Nat)(h:(a.extract 32 64).size=32):(gq K a R k).size<=36+48*k:=by
 have b:=Dz K (a.extract 0 32) (aS (a.extract 0 32)) (a.extract 32 64) R h k;have h2:=nN (a.extract 0 32);unfold gq;rw[Qe,Qe,Qe,h2,show Le_mark.size=3 from rfl,show (ya R.length).size=1 from rfl];omega
theorem abX(K:Nat->BitVec 64)(c a data:Qb)(R:List ByteArray)(b n cp:Nat)(w:Qo)(hs:c.size=32)(ah:a.size=64)(a1:data.size<=10000)(hn:n=R.length)(a2:1<=n)(a0:n<=8)
  (hb:SR w b R) (hz:∀k,k<n->(aM R k).size<=140737488351232) (hK:Tab K w):
  Rw 28 #[Qa c,.slice (some ⟨b,0,none⟩) n cp,Qa a,Qa data] w (Qd #[Qa (fU K c R a data).1,Qc .i64 (fU K c R a data).2]):=by
 subst hn;have Z:(a.extract 0 32).size=32:=by rw[Qf,ah];rfl
 have J:(a.extract 32 64).size=32:=by rw[Qf,ah];rfl
 have H1:Hid (Rv 25 #[Qa (a.extract 0 32)] (Qa (aS (a.extract 0 32)))):=λd=>Dc _ d Z
 have M:=nN (a.extract 0 32);have G:Hid (dB K (a.extract 0 32) (aS (a.extract 0 32)) (a.extract 32 64) R R.length=0->fU K c R a data=(pA K c R a data,0)):=λh=>by unfold fU;rw[if_pos h]
 have Q:Hid (¬dB K (a.extract 0 32) (aS (a.extract 0 32)) (a.extract 32 64) R R.length=0->fU K c R a data=(⟨#[]⟩,dB K (a.extract 0 32) (aS (a.extract 0 32)) (a.extract 32 64) R R.length)):=λh=>by unfold fU;rw[if_neg h]
 have D:=Qh λd r h=>V4 K r _ _ _ d Z M J h
 have A1:Qj .add Le_mark (aS (a.extract 0 32))=pure (Qa (Le_mark++aS (a.extract 0 32))):=bB _ _ (by rw[M];decide);have zm:(Le_mark++aS (a.extract 0 32)).size=35:=by rw[Qe,M];rfl
 have A2:Qj .add (Le_mark++aS (a.extract 0 32)) (ya R.length)=pure (Qa (Le_mark++aS (a.extract 0 32)++ya R.length)):=bB _ _ (by rw[zm];show 35+1<=_;omega);have an:a.extract 32 a.size=a.extract 32 64:=by rw[ah]
 have cv:IntKind.u8.wrap (R.length:Int)=(R.length:Int):=by rw[IntKind.wrap_u8];omega
 go_enter Tryz.func28,Tryz.ntmps28;go_wp2_with fail;go_quiet (fail)
 have s:=hb.drewN nq;have j:Below w.heap.size w (w.drewN nq):=below_drewN bR nq;have q:=Qh (hK.below j);clear hK;generalize w.drewN nq=w0 at s j q|-;go_wp2_with fail;try rw[an]
 refine gv H1 λH t=>?_
 replace s:=s.keep t;replace q:=Qh (q.out.below t);replace j:=j.trans (t.mono j.size);clear H1 t;have eB:Bs [Qn R.length]=#[Qc .u8 (R.length:Int)]:=by
  show #[Qc .u8 ((Qn R.length).toNat:Int)]=_
  rw[show (Qn R.length).toNat=R.length by simp;omega]
 have ap:=gc (cap:=1) (Blk.new H (Bs [Qn R.length]) 5) 1 rfl;rw[eB]at ap;replace s:=s.alloc (.cells #[Qc .u8 (R.length:Int)] 5);have t:Below H.heap.size H (H.alloc (.cells #[Qc .u8 (R.length:Int)] 5)):=bR.alloc nR _;replace q:=Qh (q.out.below t);replace j:=j.trans (t.mono j.size);clear t eB;go_wp2_with fail;clear ap A1 A2 cv an;generalize H.alloc (.cells #[Qc .u8 (R.length:Int)] 5)=w2 at s j q|-;have ax:=EG K a R;have HM:=EH K a R;have S:∀k,k<=8->(gq K a R k).size<=420:=λk W=>by have:=zD K a R k J;omega
 have p:∀k,k<R.length->Qj .add (gq K a R k) (cV K (aM R k) (a.extract 0 32) (aS (a.extract 0 32)) (a.extract 32 64)).1=pure (Qa (gq K a R (k+1))):=λk W=>by
  rw[HM];exact bB _ _ (by have:=S k oo;have:=BJ K (aM R k) (a.extract 0 32) (aS (a.extract 0 32)) (a.extract 32 64) J;omega)
 clear HM;have ay:Hid (({data:=#[77,86,49]}++aS (a.extract 0 32)++{data:=#[Qn R.length]}:ByteArray)=gq K a R 0):=ax.symm;rw[ay.out];clear ax ay;have u:Hid (∀k,dB K (a.extract 0 32) (aS (a.extract 0 32)) (a.extract 32 64) R k=0->dB K (a.extract 0 32) (aS (a.extract 0 32)) (a.extract 32 64) R (k+1)=(cV K (aM R k) (a.extract 0 32) (aS (a.extract 0 32)) (a.extract 32 64)).2):=λk h=>by rw[dB,if_pos h]
 have N:Hid (∀k,k<R.length-> ¬dB K (a.extract 0 32) (aS (a.extract 0 32)) (a.extract 32 64) R (k+1)=0->dB K (a.extract 0 32) (aS (a.extract 0 32)) (a.extract 32 64) R R.length=dB K (a.extract 0 32) (aS (a.extract 0 32)) (a.extract 32 64) R (k+1)):=λk W h=>by
  have:=yr K (a.extract 0 32) (aS (a.extract 0 32)) (a.extract 32 64) R (k+1) h (R.length-(k+1));rw[show k+1+(R.length-(k+1))=R.length by omega]at this;exact this
 have ao:Hid (SR w2 b R/\Tab K w2/\Below w.heap.size w w2):=⟨s,q.out,j⟩;have E0:Hid (dB K (a.extract 0 32) (aS (a.extract 0 32)) (a.extract 32 64) R 0=0):=rfl;have O:Hid (∀d:Qo,Tab K d->Rw 26 #[Qa c] d (Qa (ja K c))):=λd h=>Kb K c d hs h
 have P:=Qr λd=>acC data d oo
 have E:Hid (∀d:Qo,Tab K d->Rw 55 #[Qa (a.extract 32 64)] d (Qa (cn K (a.extract 32 64)))):=λd h=>Ei K _ d oo h
 have y1:=yp K c;have y2:=A5 data;have y3:(ja K c++lx data).size=36:=by rw[Qe,y1,y2]
 have y4:=S R.length a0;have y5:(fu K c R a data).size<=456:=by
  show(gq K a R R.length++(ja K c++lx data)).size<=456
  rw[Qe,y3];omega
 have y:Hid (Rv 54 #[Qa (cn K (a.extract 32 64)),Qa aT,Qa (fu K c R a data),Qa data] (Qa (du (cn K (a.extract 32 64)) aT (fu K c R a data) data))):=λd=>Cj _ _ _ _ d (tc K _) rfl oo oo
 have L:=qJ (cn K (a.extract 32 64)) aT (fu K c R a data) data;have y7:(fN K c R a data).size<=10472:=by
  show(fu K c R a data++du (cn K (a.extract 32 64)) aT (fu K c R a data) data).size<=10472
  rw[Qe,L];omega
 have F:Hid (∀d:Qo,Tab K d->Rw 56 #[Qa c,Qa (fN K c R a data)] d (Qa (vU K c (fN K c R a data)))):=λd h=>Wo K c _ d hs oo h
 have y8:=AZ K c (fN K c R a data);have z:Hid (Qj .add (ja K c) (lx data)=pure (Qa (ja K c++lx data))):=bB _ _ (by rw[y1,y2];omega);have A:Hid (Qj .add (gq K a R R.length) (ja K c++lx data)=pure (Qa (fu K c R a data))):=bB _ _ (by rw[y3];omega);have B:Hid (Qj .add (fu K c R a data) (du (cn K (a.extract 32 64)) aT (fu K c R a data) data)=pure (Qa (fN K c R a data))):=bB _ _ (by rw[L];omega);have C:Hid (Qj .add (fN K c R a data) (vU K c (fN K c R a data))=pure (Qa (pA K c R a data))):=bB _ _ (by rw[y8];omega);generalize pA K c R a data=LE at G C;generalize vU K c (fN K c R a data)=SI at F C y8;generalize du (cn K (a.extract 32 64)) aT (fu K c R a data) data=CB at y B L;generalize fN K c R a data=SD at F B C y7;generalize fu K c R a data=TI at y A B y5 L;generalize cn K (a.extract 32 64)=BO at E y;generalize ja K c++lx data=IC at z A y3;generalize ja K c=ID at O z y1;generalize lx data=CN at P z y2;generalize dB K (a.extract 0 32) (aS (a.extract 0 32)) (a.extract 32 64) R=ER at G Q u N E0;generalize gq K a R=HD at S p A y4|-;generalize aS (a.extract 0 32)=PU at D p u M zm|-;generalize a.extract 0 32=SE at D p u Z|-;generalize a.extract 32 64=IN at D p u E J|-;clear s q j hb;replace p:=Qh p;replace hz:=Qh hz;clear y1 y2 y3 y4 y5 L y7 y8 S Z J M zm;go_loopw [13,34] (λl i wr=> ∃k:Nat,i=Qc .i64 k/\l=Qa (HD k)/\k<=R.length/\Hid (ER k=0)/\Hid (SR wr b R/\Tab K wr/\Below w.heap.size w wr)) (λ_ i _=>R.length-(intOf i).toNat)
 case atStart=>exact⟨0,rfl,rfl,oo,E0,ao⟩
 case round=>
  clear ao E0;obtain⟨k,rfl,rfl,W,hE,g⟩:=hrel;by_cases X:k<R.length
  .have d1:(k:Int)<(R.length:Int):=oo
   have cc:=g.out.1.2 k X;have v:=Qh (D.out wr (aM R k) g.out.2.1);have ha:=p.out k X;have x:=u.out k hE.out;have T:=N.out k X;clear D p u N O P E y F z A B C;generalize (cV K (aM R k) SE PU IN).1=S1 at v ha;generalize (cV K (aM R k) SE PU IN).2=S2 at v x;generalize aM R k=RK at cc v;replace x:=Qh x;replace T:=Qh T;by_cases ag:S2=0
   .subst ag;go_wp2_with fail;refine v.out.mono ?_;rintro e I ⟨rfl,o⟩;have ad:Hid (SR I b R/\Tab K I/\Below w.heap.size w I):=⟨g.out.1.keep o,g.out.2.1.below o,g.out.2.2.trans (o.mono g.out.2.2.size)⟩;clear cc g o v;go_wp2_with fail;go_roundw
    case rel=>exact⟨k+1,gn,rfl,oo,x,ad⟩
    case measure=>simp[intOf];omega
   .have d2:(S2 !=0)=true:=by rw[bne_iff_ne];exact ag
    go_wp2_with fail;refine v.out.mono ?_;rintro e I ⟨rfl,o⟩;have ad:=Qh (g.out.2.2.trans (o.mono g.out.2.2.size));have ab:Hid (fU K c R a data=(⟨#[]⟩,S2)):=by
     have e1:¬ER (k+1)=0:=by rw[x.out];exact ag
     have e2:=T.out e1;have e3:¬ER R.length=0:=by rw[e2];exact e1
     have e4:=Q.out e3;rw[e2,x.out]at e4;exact e4
    clear cc g o v T x Q G;go_wp2;go_ret2;rw[ab.out];exact⟨rfl,ad.out⟩
  .have az:k=R.length:=oo
   subst az;have ab:=Qh (G.out hE.out);have f:=g.out.2.2;have m:=Qh g.out.2.1;clear G Q D p u N g hE X W;have g1:=z.out;have g2:=A.out;have g3:=B.out;have g4:=C.out;clear z A B C;go_wp2_with fail;refine mo (O.out _ m.out) λI o=>?_;replace m:=Qh (m.out.below o);replace f:=f.trans (o.mono f.size);clear o O;go_wp2_with fail;refine gv P λw4 k4=>?_
   replace m:=Qh (m.out.below k4);replace f:=f.trans (k4.mono f.size);clear k4 P;go_wp2_with fail;refine mo (E.out _ m.out) λw5 k5=>?_;replace m:=Qh (m.out.below k5);replace f:=f.trans (k5.mono f.size);clear k5 E;go_wp2_with fail;refine gv y λw6 k6=>?_
   replace m:=Qh (m.out.below k6);replace f:=f.trans (k6.mono f.size);clear k6 y;go_wp2_with fail;refine mo (F.out _ m.out) λw7 k7=>?_;replace f:=f.trans (k7.mono f.size);clear k7 F;go_wp2;go_ret2;rw[ab.out];exact⟨rfl,f⟩
end Go.Proofs.YtclpbaokadfhhaaGreatDoor
end
