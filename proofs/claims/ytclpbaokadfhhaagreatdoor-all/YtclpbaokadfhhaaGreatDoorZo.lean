import Derived.Test.YtclpbaokadfhhaaGreatDoorZn
import Derived.BigQuiet
set_option maxRecDepth 100000
set_option maxHeartbeats 2000000
open Go.IntKind renaming u64->Qa,i64->Qc,wrap_i64->Qd,wrap_u64->Qe
open Go renaming below_setRow->Qf,setRow_setRow->Qg,bodyPost_ret->Qi,heap_alloc2_new->Qj,World->Qk,results_cell_row->Qm,heap_alloc2_old->Qn,below_drewN->Qo
open Go.Obj renaming cells->Qp
open Go.Value renaming int->Qq,agg->Qt
open Go.Proofs.Tryz renaming prog->Qz,underlying208->QA,underlying210->QB
open Go.RowKit renaming intOf->QC,Below->QD
open Go.BinOp renaming or->QE,and->QF
open BitVec renaming ofNat->QG,toNat_mul->QH,toNat_add->QI
namespace Go.Proofs.YtclpbaokadfhhaaGreatDoor
open Go.RowKit
open Blk renaming alloc->Qx,new->Qy
def ci(f:Nat->UInt8):Nat->BitVec 64
 |0=>0
 |k+1=>ci f k|||QG 64 (f k).toNat<<<(8*k)
def uZ(f:Nat->UInt8)(k:Nat):List (BitVec 64):=[ci f (min k 8),ci (λi=>f (8+i)) (k-8)]
theorem Sg(f:Nat->UInt8)(k:Nat)(j:k<16):(uZ f k).set (k/8) ((uZ f k).getD (k/8) 0|||QG 64 (f k).toNat<<<(k%8*8))=uZ f (k+1):=by
 by_cases h:k<8
 .have a:k/8=0:=oo
  have b:k%8=k:=oo
  have c:min k 8=k:=oo
  have d:min (k+1) 8=k+1:=oo
  have g:k-8=0:=oo
  have e:k+1-8=0:=oo
  rw[a,b];unfold uZ;rw[c,d,g,e,Nat.mul_comm k 8];rfl
 .have a:k/8=1:=oo
  have b:k%8=k-8:=oo
  have c:min k 8=8:=oo
  have d:min (k+1) 8=8:=oo
  have e:k+1-8=(k-8)+1:=oo
  have i:f k=f (8+(k-8)):=by congr 1;omega
  rw[a,b];unfold uZ;rw[c,d,e,Nat.mul_comm (k-8) 8,i];rfl
def yg(f:Nat->UInt8):List (BitVec 64):=[ci f 8,ci (λi=>f (8+i)) 8]
def GO(lo hi:BitVec 64):List (BitVec 64):=[lo&&&1152921487695413247,hi&&&1152921487695413244]
def iL(lo hi above:BitVec 64):List (BitVec 64):=
 [lo&&&67108863,lo>>>26&&&67108863,(lo>>>52|||hi<<<12)&&&67108863,hi>>>14&&&67108863,hi>>>40|||above<<<24]
theorem ZH(x:Qv)(c:UInt8)(n:Nat):bits QE Qa (U x) (Qa.wrap (Qa.wrap (c.toNat:Int)*2^n))=U (x|||QG 64 c.toNat<<<n):=by
 have h:=c.toNat_lt;rw[wK c.toNat oo,Oa,Aa,nT]
theorem Tryz.info2:(Qz.info? 210).map (·.size)=some 2:=kr
theorem Xd:Ty 210 2:=⟨_,QB,rfl,Tryz.info2⟩
theorem Ch(b off c cap:Nat)(f:Nat->UInt8)(w:Qk)(z:16<=c)(A:c<=9223372036854775807)
  (j:∀i,i<16->w.cell? ⟨b,off+i,none⟩=some (Qq .u8 (f i).toNat)):
  Rw 219 #[.slice (some ⟨b,off,none⟩) c cap] w (Qt (Ws (yg f))):=by
 have s:=block_lt_of_cell (j 0 oo);have o:=Qh j;clear j;go_enter Tryz.func219,Tryz.ntmps219;go_wp2;rw[show (#[Qq Qa 0,Qq Qa 0]:Array Value)=Ws [0,0]from rfl];go_loopw [5] (λi wr=> ∃k:Nat,k<=16/\i=Qq Qc k/\Blk wr (w.heap.size+1) (Ws (uZ f k)) 210/\Blk wr w.heap.size (Ws [0,0]) 210/\QD w.heap.size w wr) (λi _=>16-(QC i).toNat)
 case atStart=>exact⟨0,Nat.zero_le _,rfl,Qj w _ _,Qn w _ _,(bR.alloc nR _).alloc ss _⟩
 case round=>
  obtain⟨k,y,rfl,a,h,d⟩:=hrel;by_cases n:k<16
  .have r:=o.out k n;rw[<-d.cell (p:=⟨b,off+k,none⟩) s]at r;have h2:=a.cell (k/8);rw[cQ _ _ (by show k/8<2;omega)]at h2;have u:=a.frozen (k/8);have l:=Qh (Sg f k n);generalize (uZ f k).getD (k/8) 0=x at h2 l;have B:(k:Int)<16:=oo
   have C:(k:Int)/8<2:=oo
   have D:(0:Int)<=(k:Int)/8:=oo
   have E:((k:Int)/8).toNat=k/8:=oo
   have F:(k:Int)<c:=oo
   go_wp2_with fail;go_region
   go_wp2;go_roundw
   case rel=>
    rw[ZH,a.set,eC,show _=_ from l.out];exact⟨k+1,oo,gn,a.row _,h.other oo _,(Qf d oo _).drew⟩
   case measure=>simp[QC];omega
  .have t:k=16:=oo
   subst t;have m:=h;have g:=a;unfold Blk at m g;rw[show uZ f 16=yg f from rfl]at g;have e:(Ws (yg f)).size=2:=by rw[dA];rfl
   have q:(Ws [0,0]).size=2:=by rw[dA];rfl
   go_wp2_with (first
    |(refine ld Xd rfl rfl (w.heap.size+1) rfl g e ?_)
    |(refine st Xd rfl rfl w.heap.size rfl rfl m e q (aZ _) ?_))
   refine Qi (v:=Qt (Ws (yg f))) ?_ rfl ⟨rfl,Qf d nR _⟩;exact rr Xd rfl rfl (h.row _) e
theorem ND(b a:Qv)(w:Qk):
  Rw 218 #[Qt (Ws [b,a])] w (Qt (Ws (GO b a))):=by
 have c:bits QF Qa (U b) 1152921487695413247=U (b&&&1152921487695413247):=by
  rw[show (1152921487695413247:Int)=U 1152921487695413247 by decide,nK]
 have d:bits QF Qa (U a) 1152921487695413244=U (a&&&1152921487695413244):=by
  rw[show (1152921487695413244:Int)=U 1152921487695413244 by decide,nK]
 rw[show (Ws [b,a])=#[Qq Qa (U b),Qq Qa (U a)]from rfl];go_enter Tryz.func218,Tryz.ntmps218;go_wp2;refine Qi (v:=Qt (Ws (GO b a))) ?_ rfl ⟨rfl,(bR.alloc nR _).alloc ss _⟩;exact Qm rfl _ _ (w.heap.size+1) 210 _ (0,0) _ rfl (Qj w _ _) QB rfl Tryz.info2
theorem Tryz.info5:(Qz.info? 208).map (·.size)=some 5:=kr
theorem ze:Ty 208 5:=⟨_,QA,rfl,Tryz.info5⟩
theorem wL(x:Qv):bits QF Qa (U x) 67108863=U (x&&&67108863):=by
 rw[show (67108863:Int)=U 67108863 by decide,nK]
theorem vp(x:Qv)(k:Int)(n:Nat)(h:(2:Int)^n=k):U x/k=U (x>>>n):=by rw[<-h,vq]
theorem Bk(x:Qv)(k:Int)(n:Nat)(h:(2:Int)^n=k):Qa.wrap (U x*k)=U (x<<<n):=by rw[<-h,Aa]
theorem abk{w:Qk}{b t:Nat}{h i j k l:Qv}(a:Blk w b (Ws [h,i,j,k,l]) t)(c d e f g:Qv):
  ((((w.setCell ⟨b,0,none⟩ (Qq Qa (U c))).setCell ⟨b,1,none⟩ (Qq Qa (U d))).setCell ⟨b,2,none⟩ (Qq Qa (U e))).setCell ⟨b,3,none⟩ (Qq Qa (U f))).setCell ⟨b,4,none⟩ (Qq Qa (U g))=w.setRow b (Ws [c,d,e,f,g]):=by
 rw[a.set,(a.row _).set,Qg,(a.row _).set,Qg,(a.row _).set,Qg,(a.row _).set,Qg];rfl
theorem zh(b a c:Qv)(w:Qk):
  Rw 217 #[Qt (Ws [b,a]),Qq Qa (U c)] w (Qt (Ws (iL b a c))):=by
 have f:=wL b;have g:bits QF Qa (U b/67108864) 67108863=U (b>>>26&&&67108863):=by rw[vp b 67108864 26 rfl,wL]
 have h:bits QF Qa (bits QE Qa (U b/4503599627370496) (Qa.wrap (U a*4096))) 67108863=U ((b>>>52|||a<<<12)&&&67108863):=by
  rw[vp b 4503599627370496 52 rfl,Bk a 4096 12 rfl,nT,wL]
 have i:bits QF Qa (U a/16384) 67108863=U (a>>>14&&&67108863):=by rw[vp a 16384 14 rfl,wL]
 have j:bits QE Qa (U a/1099511627776) (Qa.wrap (U c*16777216))=U (a>>>40|||c<<<24):=by
  rw[vp a 1099511627776 40 rfl,Bk c 16777216 24 rfl,nT]
 have d:=Qh (p:=iL b a c=[b&&&67108863,b>>>26&&&67108863,(b>>>52|||a<<<12)&&&67108863,a>>>14&&&67108863,a>>>40|||c<<<24]) rfl
 generalize iL b a c=R at d|-;generalize b&&&67108863=l at f d;generalize b>>>26&&&67108863=m at g d;generalize (b>>>52|||a<<<12)&&&67108863=o at h d;generalize a>>>14&&&67108863=q at i d;generalize a>>>40|||c<<<24=r at j d
 rw[show (Ws [b,a])=#[Qq Qa (U b),Qq Qa (U a)]from rfl];go_enter Tryz.func217,Tryz.ntmps217;go_wp2_with fail;go_quiet (fail)
 have e:∀n,Blk (((w.alloc (Qp #[Qq Qa (U b),Qq Qa (U a)] 210)).alloc (Qp #[Qq Qa 0,Qq Qa 0,Qq Qa 0,Qq Qa 0,Qq Qa 0] 208)).drewN n) (w.heap.size+1) (Ws [0,0,0,0,0]) 208:=λn=>Qj w _ _
 have k:∀n,QD w.heap.size w (((w.alloc (Qp #[Qq Qa (U b),Qq Qa (U a)] 210)).alloc (Qp #[Qq Qa 0,Qq Qa 0,Qq Qa 0,Qq Qa 0,Qq Qa 0] 208)).drewN n):=λn=>Qo ((bR.alloc nR _).alloc ss _) _
 go_wp2;rw[abk (e _)];refine Qi (v:=Qt (Ws [l,m,o,q,r])) ?_ rfl ⟨by rw[show R=_ from d.out],Qf (k _) oo _⟩;exact Qm rfl _ _ (w.heap.size+1) 208 _ (0,0) _ rfl ((e _).row _) QA rfl Tryz.info5
def jU(a b:List (BitVec 64)):Nat->List (BitVec 64)
 |0=>a
 |k+1=>(jU a b k).set k ((jU a b k).getD k 0+b.getD k 0)
theorem uK(a b:Ql)(k:Nat):(jU a b k).length=a.length:=by
 induction k with
 |zero=>rfl
 |succ k c=>simp[jU,c]
def jq(a b:List (BitVec 64)):List (BitVec 64):=jU a b 5
def aQ(a:List (BitVec 64))(o:BitVec 64):Nat->List (BitVec 64)×BitVec 64
 |0=>(a,o)
 |k+1=>(((aQ a o k).1.set k ((aQ a o k).1.getD k 0+(aQ a o k).2)).set k (((aQ a o k).1.getD k 0+(aQ a o k).2)&&&67108863),((aQ a o k).1.getD k 0+(aQ a o k).2)>>>26)
theorem nZ(a:Ql)(o:Qv)(k:Nat):(aQ a o k).1.length=a.length:=by
 induction k with
 |zero=>rfl
 |succ k b=>simp[aQ,b]
def tm(l:List (BitVec 64))(o:BitVec 64):List (BitVec 64):=
 ((l.set 0 (l.getD 0 0+5*o)).set 1 (l.getD 1 0+(l.getD 0 0+5*o)>>>26)).set 0 ((l.getD 0 0+5*o)&&&67108863)
def o8(a:List (BitVec 64)):List (BitVec 64):=tm (aQ a 0 5).1 (aQ a 0 5).2
theorem Kx(a:Ql):(o8 a).length=a.length:=by simp[o8,tm,nZ]
theorem Ob(x:Qv):Qa.wrap (5*U x)=U (5*x):=by
 rw[Qe];unfold U;rw[QH];simp
theorem uh(l:Ql)(h:l.length=5):∃a b c d e,l=[a,b,c,d,e]:=by
 match l,h with
 | [a,b,c,d,e],_=>exact⟨a,b,c,d,e,rfl⟩
theorem vj{w:Qk}{b t:Nat}{a c d e f:Qv}(h:Blk w b (Ws [a,c,d,e,f]) t):
  w.cell? ⟨b,0,none⟩=some (Qq Qa (U a))/\w.cell? ⟨b,1,none⟩=some (Qq Qa (U c))/\w.cell? ⟨b,2,none⟩=some (Qq Qa (U d))/\w.cell? ⟨b,3,none⟩=some (Qq Qa (U e))/\w.cell? ⟨b,4,none⟩=some (Qq Qa (U f)):=
 ⟨h.cell 0,h.cell 1,h.cell 2,h.cell 3,h.cell 4⟩
theorem Z5:(#[Qq Qa 0,Qq Qa 0,Qq Qa 0,Qq Qa 0,Qq Qa 0]:Array Value)=Ws [0,0,0,0,0]:=rfl
theorem VC(a b:Ql)(w:Qk)(o:a.length=5)(r:b.length=5):
  Rw 221 #[Qt (Ws a),Qt (Ws b)] w (Qt (Ws (jq a b))):=by
 have C:=Wz o;have D:=Wz r;have c:=Qx (Qx (Qy w (Ws a) 208) (Qp (Ws b) 208)) (Qp (Ws [0,0,0,0,0]) 208);have e:=Qx (Qy (w.alloc (Qp (Ws a) 208)) (Ws b) 208) (Qp (Ws [0,0,0,0,0]) 208);have d:=Qy ((w.alloc (Qp (Ws a) 208)).alloc (Qp (Ws b) 208)) (Ws [0,0,0,0,0]) 208;have f:QD w.heap.size w (((w.alloc (Qp (Ws a) 208)).alloc (Qp (Ws b) 208)).alloc (Qp (Ws [0,0,0,0,0]) 208)):=
  ((bR.alloc nR _).alloc ss _).alloc (by simp;omega) _
 rw[show (w.alloc (Qp (Ws a) 208)).heap.size=w.heap.size+1 by simp]at e;rw[show ((w.alloc (Qp (Ws a) 208)).alloc (Qp (Ws b) 208)).heap.size=w.heap.size+1+1 by simp]at d;go_enter Tryz.func221,Tryz.ntmps221;go_wp2_with fail;rw[Z5];generalize ((w.alloc (Qp (Ws a) 208)).alloc (Qp (Ws b) 208)).alloc (Qp (Ws [0,0,0,0,0]) 208)=t at c e d f|-;go_loopw [6] (λi wr=> ∃k:Nat,k<=5/\i=Qq Qc k/\Blk wr w.heap.size (Ws (jU a b k)) 208/\Blk wr (w.heap.size+1) (Ws b) 208/\Blk wr (w.heap.size+1+1) (Ws [0,0,0,0,0]) 208/\QD w.heap.size w wr) (λi _=>5-(QC i).toNat)
 case atStart=>exact⟨0,oo,rfl,c,e,d,f⟩
 case round=>
  clear c e d f t;obtain⟨k,z,rfl,c,e,d,f⟩:=hrel;by_cases A:k<5
  .have l:=c.cell k;rw[cQ _ _ (by rw[uK];omega)]at l;have m:=e.cell k;rw[cQ _ _ oo]at m;have u:=c.frozen k;have g:=Qh (p:=jU a b (k+1)=(jU a b k).set k ((jU a b k).getD k 0+b.getD k 0)) rfl
   generalize (jU a b k).getD k 0=x at l g;generalize b.getD k 0=y at m g;have B:(k:Int)<5:=oo
   go_wp2_with fail;go_region
   go_wp2;go_roundw
   case rel=>
    rw[eW,c.set,eC];exact⟨k+1,oo,gn,by rw[show jU a b (k+1)=_ from g.out];exact c.row _,e.other oo _,d.other oo _,(Qf f oo _).drew⟩
   case measure=>simp[QC];omega
  .have s:k=5:=oo
   subst s;have h:=c;have n:=d;unfold Blk at h n;rw[show jU a b 5=jq a b from rfl]at h;have j:(Ws (jq a b)).size=5:=by rw[dA];unfold jq;rw[uK,o]
   have q:(Ws [0,0,0,0,0]).size=5:=by rw[dA];rfl
   go_wp2_with (first
    |(refine ld ze rfl rfl w.heap.size rfl h j ?_)
    |(refine st ze rfl rfl (w.heap.size+1+1) rfl rfl n j q (aZ _) ?_))
   refine Qi (v:=Qt (Ws (jq a b))) ?_ rfl ⟨rfl,Qf f oo _⟩;exact rr ze rfl rfl (d.row _) j
theorem Tu(a:Ql)(w:Qk)(A:a.length=5):
  Rw 244 #[Qt (Ws a)] w (Qt (Ws (o8 a))):=by
 have sa:=Wz A;have b:Blk ((w.alloc (Qp (Ws a) 208)).alloc (Qp (Ws [0,0,0,0,0]) 208)) w.heap.size (Ws a) 208:=Qn w _ _;have c:Blk ((w.alloc (Qp (Ws a) 208)).alloc (Qp (Ws [0,0,0,0,0]) 208)) (w.heap.size+1) (Ws [0,0,0,0,0]) 208:=Qj w _ _;have f:QD w.heap.size w ((w.alloc (Qp (Ws a) 208)).alloc (Qp (Ws [0,0,0,0,0]) 208)):=(bR.alloc nR _).alloc ss _;go_enter Tryz.func244,Tryz.ntmps244;go_wp2_with fail;rw[Z5];generalize (w.alloc (Qp (Ws a) 208)).alloc (Qp (Ws [0,0,0,0,0]) 208)=H at b c f|-;rw[show Qq Qa 0=Qq Qa (U 0)from rfl];go_loopw [3,5] (λo i wr=> ∃k:Nat,k<=5/\i=Qq Qc k/\o=Qq Qa (U (aQ a 0 k).2)/\Blk wr w.heap.size (Ws (aQ a 0 k).1) 208/\Blk wr (w.heap.size+1) (Ws [0,0,0,0,0]) 208/\QD w.heap.size w wr) (λ_ i _=>5-(QC i).toNat)
 case atStart=>exact⟨0,oo,rfl,rfl,b,c,f⟩
 case round=>
  clear b c f H;obtain⟨k,T,rfl,rfl,b,c,f⟩:=hrel;by_cases W:k<5
  .have d:=Qh (p:=aQ a 0 (k+1)=(((aQ a 0 k).1.set k ((aQ a 0 k).1.getD k 0+(aQ a 0 k).2)).set k (((aQ a 0 k).1.getD k 0+(aQ a 0 k).2)&&&67108863),((aQ a 0 k).1.getD k 0+(aQ a 0 k).2)>>>26)) rfl
   have j:(aQ a 0 k).1.length=5:=by rw[nZ,A]
   generalize (aQ a 0 k).1=L at b d j;generalize (aQ a 0 k).2=o at d|-;have t:=b.cell k;rw[cQ _ _ oo]at t;have F:=b.frozen k;generalize L.getD k 0=x at t d;have X:(k:Int)<5:=oo
   have s:=eW x o;have g:=wL (x+o);have h:=vp (x+o) 67108864 26 rfl;generalize x+o=y at s g h d;generalize y&&&67108863=z at g d;generalize y>>>26=q at h d;go_wp2;go_roundw
   case rel=>
    rw[b.set,(b.row _).set,Qg,eC,eC];refine⟨k+1,oo,gn,?_,?_,c.other oo _,Qf f oo _⟩
    .rw[show aQ a 0 (k+1)=_ from d.out]
    .rw[show aQ a 0 (k+1)=_ from d.out];exact b.row _
   case measure=>simp[QC];omega
  .have G:k=5:=oo
   subst G;rw[show ((5:Nat):Int)=5 from rfl];have r:=Qh (p:=o8 a=tm (aQ a 0 5).1 (aQ a 0 5).2) rfl
   have j:(aQ a 0 5).1.length=5:=by rw[nZ,A]
   generalize (aQ a 0 5).1=L at b r j;generalize (aQ a 0 5).2=o at r|-;obtain⟨x,y,l,m,n,rfl⟩:=uh L j;have e:=Qh (p:=tm [x,y,l,m,n] o=[(x+5*o)&&&67108863,y+(x+5*o)>>>26,l,m,n]) rfl
   obtain⟨I,t,J,K,M⟩:=vj b;obtain⟨N,O,P,Q,R⟩:=vj c;have S:=b.frozen 0;have F:=b.frozen 1;have Z:=c.frozen 0;have k1:=c.frozen 1;have k2:=c.frozen 2;have k3:=c.frozen 3;have k4:=c.frozen 4;have C:=Ob o;generalize 5*o=p at C e;have s:=eW x p;have g:=wL (x+p);have h:=vp (x+p) 67108864 26 rfl;generalize x+p=u at s g h e;generalize u&&&67108863=z at g e;generalize u>>>26=q at h e;have D:=eW y q;generalize y+q=v at D e;have B:Blk (((wr.setCell ⟨w.heap.size,0,none⟩ (Qq Qa (U u))).setCell ⟨w.heap.size,1,none⟩ (Qq Qa (U v))).setCell ⟨w.heap.size,0,none⟩ (Qq Qa (U z))) (w.heap.size+1) (Ws [0,0,0,0,0]) 208:=by
    rw[b.set,(b.row _).set,Qg,(b.row _).set,Qg];exact c.other oo _
   have E:QD w.heap.size w (((wr.setCell ⟨w.heap.size,0,none⟩ (Qq Qa (U u))).setCell ⟨w.heap.size,1,none⟩ (Qq Qa (U v))).setCell ⟨w.heap.size,0,none⟩ (Qq Qa (U z))):=((f.setCell nR _).setCell nR _).setCell nR _;go_wp2;rw[abk B];refine Qi (v:=Qt (Ws [z,v,l,m,n])) ?_ rfl ⟨by rw[show o8 a=_ from r.out,show tm [x,y,l,m,n] o=_ from e.out],Qf E oo _⟩;exact Qm rfl _ _ (w.heap.size+1) 208 _ (0,0) _ rfl (B.row _) QA rfl Tryz.info5
def nD(s:List (BitVec 64))(i j:Nat)(p:BitVec 64):List (BitVec 64):=
 if i+j<5 then s.set (i+j) (s.getD (i+j) 0+p)else s.set (i+j-5) (s.getD (i+j-5) 0+5*p)
theorem Ku(s:Ql)(i j:Nat)(p:Qv):(nD s i j p).length=s.length:=by
 unfold nD;split<;>simp
def gu(a b s:List (BitVec 64))(i:Nat):Nat->List (BitVec 64)
 |0=>s
 |j+1=>nD (gu a b s i j) i j (a.getD i 0*b.getD j 0)
theorem B9(a b s:Ql)(i j:Nat):(gu a b s i j).length=s.length:=by
 induction j with
 |zero=>rfl
 |succ j c=>simp[gu,Ku,c]
def f5(a b:List (BitVec 64)):Nat->List (BitVec 64)
 |0=>[0,0,0,0,0]
 |i+1=>gu a b (f5 a b i) i 5
theorem tQ(a b:Ql)(i:Nat):(f5 a b i).length=5:=by
 induction i with
 |zero=>rfl
 |succ i c=>simp[f5,B9,c]
def jx(a b:List (BitVec 64)):List (BitVec 64):=o8 (f5 a b 5)
theorem wA(a b:Ql):(jx a b).length=5:=by simp[jx,Kx,tQ]
theorem acB(x y:Qv):Qa.wrap (U x*U y)=U (x*y):=by
 rw[Qe];unfold U;rw[QH];simp
theorem U4(a b:Ql)(w:Qk)(P:a.length=5)(Q:b.length=5):
  Rw 220 #[Qt (Ws a),Qt (Ws b)] w (Qt (Ws (jx a b))):=by
 have sa:=Wz P;have sb:=Wz Q;have m:=Qx (Qx (Qx (Qy w (Ws a) 208) (Qp (Ws b) 208)) (Qp (Ws [0,0,0,0,0]) 208)) (Qp (Ws [0,0,0,0,0]) 208);have g:=Qx (Qx (Qy (w.alloc (Qp (Ws a) 208)) (Ws b) 208) (Qp (Ws [0,0,0,0,0]) 208)) (Qp (Ws [0,0,0,0,0]) 208);have h:=Qx (Qy ((w.alloc (Qp (Ws a) 208)).alloc (Qp (Ws b) 208)) (Ws [0,0,0,0,0]) 208) (Qp (Ws [0,0,0,0,0]) 208);have d:=Qy (((w.alloc (Qp (Ws a) 208)).alloc (Qp (Ws b) 208)).alloc (Qp (Ws [0,0,0,0,0]) 208)) (Ws [0,0,0,0,0]) 208;have f:QD w.heap.size w ((((w.alloc (Qp (Ws a) 208)).alloc (Qp (Ws b) 208)).alloc (Qp (Ws [0,0,0,0,0]) 208)).alloc (Qp (Ws [0,0,0,0,0]) 208)):=
  (((bR.alloc nR _).alloc ss _).alloc (by simp;omega) _).alloc (by simp;omega) _
 rw[show (w.alloc (Qp (Ws a) 208)).heap.size=w.heap.size+1 by simp]at g;rw[show ((w.alloc (Qp (Ws a) 208)).alloc (Qp (Ws b) 208)).heap.size=w.heap.size+1+1 by simp]at h;rw[show (((w.alloc (Qp (Ws a) 208)).alloc (Qp (Ws b) 208)).alloc (Qp (Ws [0,0,0,0,0]) 208)).heap.size=w.heap.size+1+1+1 by simp]at d;go_enter Tryz.func220,Tryz.ntmps220;go_wp2_with fail;rw[Z5];generalize (((w.alloc (Qp (Ws a) 208)).alloc (Qp (Ws b) 208)).alloc (Qp (Ws [0,0,0,0,0]) 208)).alloc (Qp (Ws [0,0,0,0,0]) 208)=w1 at m g h d f|-;go_loopw [9] (λi wr=> ∃k:Nat,k<=5/\i=Qq Qc k/\Blk wr w.heap.size (Ws a) 208/\Blk wr (w.heap.size+1) (Ws b) 208/\Blk wr (w.heap.size+1+1) (Ws [0,0,0,0,0]) 208/\Blk wr (w.heap.size+1+1+1) (Ws (f5 a b k)) 208/\QD w.heap.size w wr) (λi _=>5-(QC i).toNat)
 case atStart=>exact⟨0,oo,rfl,m,g,h,d,f⟩
 case round=>
  clear m g h d f w1;obtain⟨i,hi,rfl,m,g,h,d,f⟩:=hrel;by_cases ad:i<5
  .have i1:(i:Int)<5:=oo
   have r:(f5 a b i).length=5:=tQ _ _ _;have B:=Qh (p:=f5 a b (i+1)=gu a b (f5 a b i) i 5) rfl
   generalize f5 a b i=S at d r B;go_wp2_with fail;go_loopw [12] (λc wr=> ∃j:Nat,j<=5/\c=Qq Qc j/\Blk wr w.heap.size (Ws a) 208/\Blk wr (w.heap.size+1) (Ws b) 208/\Blk wr (w.heap.size+1+1) (Ws [0,0,0,0,0]) 208/\Blk wr (w.heap.size+1+1+1) (Ws (gu a b S i j)) 208/\QD w.heap.size w wr) (λc _=>5-(QC c).toNat)
   case atStart=>exact⟨0,oo,rfl,m,g,h,d,f⟩
   case round=>
    clear m g h d f;obtain⟨j,hj,rfl,m,g,h,d,f⟩:=hrel;by_cases ab:j<5
    .have j1:(j:Int)<5:=oo
     have W:(gu a b S i j).length=5:=by rw[B9,r]
     have o:=Qh (p:=gu a b S i (j+1)=nD (gu a b S i j) i j (a.getD i 0*b.getD j 0)) rfl
     generalize gu a b S i j=L at d W o;have C:=m.cell i;rw[cQ _ _ oo]at C;have D:=g.cell j;rw[cQ _ _ oo]at D;generalize a.getD i 0=x at C o;generalize b.getD j 0=y at D o;have K:=acB x y;generalize x*y=p at K o;by_cases I:i+j<5
     .have Z:(i:Int)+(j:Int)<5:=oo
      have s2:((i:Int)+(j:Int)).toNat=i+j:=oo
      have s3:(0:Int)<=(i:Int)+(j:Int):=oo
      have s4:Qc.wrap ((i:Int)+(j:Int))=(i:Int)+(j:Int):=by rw[Qd];omega
      have s:=d.cell (i+j);rw[cQ _ _ oo]at s;have O:=d.frozen (i+j);have n:=Qh (p:=nD L i j p=L.set (i+j) (L.getD (i+j) 0+p)) (by unfold nD;rw[if_pos I])
      generalize L.getD (i+j) 0=z at s n;have t:=eW z p;generalize z+p=q at t n;go_wp2_with fail;go_quiet (fail)
      go_wp2;go_roundw
      case rel=>
       refine⟨j+1,oo,gn,?_,?_,?_,?_,?_⟩
       .rw[(d.drewN _).set];exact(m.drewN _).other oo _
       .rw[(d.drewN _).set];exact(g.drewN _).other oo _
       .rw[(d.drewN _).set];exact(h.drewN _).other oo _
       .rw[(d.drewN _).set,eC,show gu a b S i (j+1)=_ from o.out,show nD L i j p=_ from n.out];exact(d.drewN _).row _
       .exact(Qo f _).setCell (show w.heap.size<=w.heap.size+1+1+1 by omega) _
      case measure=>simp[QC];omega
     .have Z:¬(i:Int)+(j:Int)<5:=oo
      have s2:((i:Int)+(j:Int)-5).toNat=i+j-5:=oo
      have s3:(0:Int)<=(i:Int)+(j:Int)-5:=oo
      have s5:(i:Int)+(j:Int)-5<5:=oo
      have s4:Qc.wrap ((i:Int)+(j:Int))=(i:Int)+(j:Int):=by rw[Qd];omega
      have s6:Qc.wrap ((i:Int)+(j:Int)-5)=(i:Int)+(j:Int)-5:=by rw[Qd];omega
      have s:=d.cell (i+j-5);rw[cQ _ _ oo]at s;have O:=d.frozen (i+j-5);have n:=Qh (p:=nD L i j p=L.set (i+j-5) (L.getD (i+j-5) 0+5*p)) (by unfold nD;rw[if_neg I])
      generalize L.getD (i+j-5) 0=z at s n;have M:=Ob p;generalize 5*p=J at M n;have t:=eW z J;generalize z+J=q at t n;go_wp2_with fail;go_quiet (fail)
      go_wp2;go_roundw
      case rel=>
       refine⟨j+1,oo,gn,?_,?_,?_,?_,?_⟩
       .rw[(d.drewN _).set];exact(m.drewN _).other oo _
       .rw[(d.drewN _).set];exact(g.drewN _).other oo _
       .rw[(d.drewN _).set];exact(h.drewN _).other oo _
       .rw[(d.drewN _).set,eC,show gu a b S i (j+1)=_ from o.out,show nD L i j p=_ from n.out];exact(d.drewN _).row _
       .exact(Qo f _).setCell (show w.heap.size<=w.heap.size+1+1+1 by omega) _
      case measure=>simp[QC];omega
    .have R:j=5:=oo
     subst R;go_wp2;go_roundw
     case rel=>exact⟨i+1,oo,gn,m,g,h,by rw[show f5 a b (i+1)=_ from B.out];exact d,f⟩
     case measure=>simp[QC];omega
  .have T:i=5:=oo
   subst T;rw[show ((5:Nat):Int)=5 from rfl];have r:(f5 a b 5).length=5:=tQ _ _ _;have u:=Tu (f5 a b 5) wr r;rw[show o8 (f5 a b 5)=jx a b from rfl]at u;have A:=Qh u;clear u;have G:(jx a b).length=5:=wA _ _;generalize f5 a b 5=S at d r A;have E:=d;unfold Blk at E;have sS:=Wz r;go_wp2_with (first
    |(refine ld ze rfl rfl (w.heap.size+1+1+1) rfl E sS ?_))
   refine A.out.mono ?_;rintro e w2 ⟨rfl,F⟩;have H:=h.keep F;have ag:=de (l:=jx a b) H (by rw[G,dA];rfl);have X:=Wz G;have N:=f.trans (F.mono f.size);go_wp2;refine Qi (v:=Qt (Ws (jx a b))) ?_ rfl ⟨rfl,Qf N oo _⟩;exact rr ze rfl rfl (H.row _) X
def lJ(a:List (BitVec 64)):Nat->BitVec 64
 |0=>5
 |k+1=>(a.getD k 0+lJ a k)>>>26
def fC(a:List (BitVec 64)):List (BitVec 64):=(aQ a (5*lJ a 5) 5).1
theorem Hp(a:Ql):(fC a).length=a.length:=nZ _ _ _
theorem ZT(a b c d e:Qv)(k:Nat)(f:k<5)(w:Qk):
  (Instr.index 208 (Qt (Ws [a,b,c,d,e])) (Qq Qc k)).run Qz w=.ok (Qq Qa (U ([a,b,c,d,e].getD k 0))) w:=by
 obtain rfl|rfl|rfl|rfl|rfl:k=0\/k=1\/k=2\/k=3\/k=4:=oo
 all_goals kernel_rfl
theorem abC(l:Ql)(b:l.length=5)(k:Nat)(a:k<5)(w:Qk):
  (Instr.index 208 (Qt (Ws l)) (Qq Qc k)).run Qz w=.ok (Qq Qa (U (l.getD k 0))) w:=by
 obtain⟨c,d,e,f,g,rfl⟩:=uh l b;exact ZT c d e f g k a w
theorem Tl(a:Ql)(w:Qk)(j:a.length=5):
  Rw 224 #[Qt (Ws a)] w (Qt (Ws (fC a))):=by
 have I:=Wz j;have c:Blk ((w.alloc (Qp (Ws a) 208)).alloc (Qp (Ws [0,0,0,0,0]) 208)) w.heap.size (Ws a) 208:=Qn w _ _;have e:Blk ((w.alloc (Qp (Ws a) 208)).alloc (Qp (Ws [0,0,0,0,0]) 208)) (w.heap.size+1) (Ws [0,0,0,0,0]) 208:=Qj w _ _;have f:QD w.heap.size w ((w.alloc (Qp (Ws a) 208)).alloc (Qp (Ws [0,0,0,0,0]) 208)):=(bR.alloc nR _).alloc ss _;have d:=c;unfold Blk at d;rw[<-Z5]at d;go_enter Tryz.func224,Tryz.ntmps224;go_wp2_with (first
  |(refine ld ze rfl rfl w.heap.size rfl d I ?_))
 rw[Z5];clear d;generalize (w.alloc (Qp (Ws a) 208)).alloc (Qp (Ws [0,0,0,0,0]) 208)=K at c e f|-;rw[show Qq Qa 5=Qq Qa (U 5)from rfl];go_loop [3,9] (λo i=> ∃k:Nat,k<=5/\i=Qq Qc k/\o=Qq Qa (U (lJ a k))) (λ_ i=>5-(QC i).toNat)
 case atStart=>exact⟨0,oo,rfl,rfl⟩
 case round=>
  obtain⟨k,E,rfl,rfl⟩:=hrel;by_cases A:k<5
  .have D:=abC a j k A;have H:(k:Int)<5:=oo
   have b:=Qh (p:=lJ a (k+1)=(a.getD k 0+lJ a k)>>>26) rfl
   generalize a.getD k 0=x at D b;generalize lJ a k=o at b|-;have n:=eW x o;have g:=vp (x+o) 67108864 26 rfl;generalize x+o=y at n g b;generalize y>>>26=q at g b;go_wp2;go_round
   case rel=>exact⟨k+1,oo,gn,by rw[show lJ a (k+1)=_ from b.out]⟩
   case measure=>simp[QC];omega
  .have F:k=5:=oo
   subst F;rw[show ((5:Nat):Int)=5 from rfl];have h:=Qh (p:=fC a=(aQ a (5*lJ a 5) 5).1) rfl
   generalize lJ a 5=o at h|-;have B:=Ob o;generalize 5*o=p at B h;go_wp2;go_loopw [6,19] (λo i wr=> ∃k:Nat,k<=5/\i=Qq Qc k/\o=Qq Qa (U (aQ a p k).2)/\Blk wr w.heap.size (Ws (aQ a p k).1) 208/\Blk wr (w.heap.size+1) (Ws [0,0,0,0,0]) 208/\QD w.heap.size w wr) (λ_ i _=>5-(QC i).toNat)
   case atStart=>exact⟨0,oo,rfl,rfl,c,e,f⟩
   case round=>
    clear c e f;obtain⟨k,E,rfl,rfl,c,e,f⟩:=hrel;by_cases A:k<5
    .have b:=Qh (p:=aQ a p (k+1)=(((aQ a p k).1.set k ((aQ a p k).1.getD k 0+(aQ a p k).2)).set k (((aQ a p k).1.getD k 0+(aQ a p k).2)&&&67108863),((aQ a p k).1.getD k 0+(aQ a p k).2)>>>26)) rfl
     have l:(aQ a p k).1.length=5:=by rw[nZ,j]
     generalize (aQ a p k).1=L at c b l;generalize (aQ a p k).2=m at b|-;have t:=c.cell k;rw[cQ _ _ oo]at t;have J:=c.frozen k;generalize L.getD k 0=x at t b;have H:(k:Int)<5:=oo
     have n:=eW x m;have s:=wL (x+m);have g:=vp (x+m) 67108864 26 rfl;generalize x+m=y at n s g b;generalize y&&&67108863=z at s b;generalize y>>>26=q at g b;go_wp2;go_roundw
     case rel=>
      rw[c.set,(c.row _).set,Qg,eC,eC];refine⟨k+1,oo,gn,?_,?_,e.other oo _,Qf f oo _⟩
      .rw[show aQ a p (k+1)=_ from b.out]
      .rw[show aQ a p (k+1)=_ from b.out];exact c.row _
     case measure=>simp[QC];omega
    .have G:k=5:=oo
     subst G;have l:(aQ a p 5).1.length=5:=by rw[nZ,j]
     generalize (aQ a p 5).1=L at c h l;have d:=c;have u:=e;unfold Blk at d u;have r:=Wz l;have C:(Ws [0,0,0,0,0]).size=5:=by rw[dA];rfl
     go_wp2_with (first
      |(refine ld ze rfl rfl w.heap.size rfl d r ?_)
      |(refine st ze rfl rfl (w.heap.size+1) rfl rfl u r C (aZ _) ?_))
     refine Qi (v:=Qt (Ws L)) ?_ rfl ⟨by rw[show fC a=L from h.out],Qf f oo _⟩;exact rr ze rfl rfl (e.row _) r
def mE(x:BitVec 64)(k:Nat):UInt8:=UInt8.ofNat (x>>>(8*k)).toNat
def eg(l:List UInt8)(off:Nat)(x:BitVec 64):Nat->List UInt8
 |0=>l
 |k+1=>(eg l off x k).set (off+k) (mE x k)
theorem jp(l:Qu)(off:Nat)(x:Qv)(k:Nat):(eg l off x k).length=l.length:=by
 induction k with
 |zero=>rfl
 |succ k a=>simp[eg,a]
theorem Bc(x:Qv)(k:Nat):U x/2^(8*k)%256=((mE x k).toNat:Int):=by
 rw[vq];unfold mE U;simp
def pj(x y c:BitVec 64):BitVec 64:=QG 64 ((x.toNat+y.toNat+c.toNat)/18446744073709551616)
theorem UO(x y c:Qv)(h:c.toNat<=1):(pj x y c).toNat<=1:=by
 have a:=x.isLt;have b:=y.isLt;unfold pj;rw[BitVec.toNat_ofNat];have:(x.toNat+y.toNat+c.toNat)/18446744073709551616<=1:=oo
 omega
def jf(x y:BitVec 64):Nat->List UInt8
 |0=>aq 16
 |i+1=>eg (jf x y i) (8*i) ([x,y].getD i 0) 8
theorem pI(x y:Qv)(i:Nat):(jf x y i).length=16:=by
 induction i with
 |zero=>rfl
 |succ i a=>simp only[jf,jp,a]
def fk(h:List (BitVec 64)):BitVec 64:=h.getD 0 0|||h.getD 1 0<<<26|||h.getD 2 0<<<52
def ka(h:List (BitVec 64)):BitVec 64:=h.getD 2 0>>>12|||h.getD 3 0<<<14|||h.getD 4 0<<<40
def Fj(h:List (BitVec 64))(s0:BitVec 64):BitVec 64:=fk h+s0+0
def C9(h:List (BitVec 64))(s0 s1:BitVec 64):BitVec 64:=ka h+s1+pj (fk h) s0 0
def kO(h:List (BitVec 64))(s0 s1:BitVec 64):List UInt8:=jf (Fj h s0) (C9 h s0 s1) 2
theorem FN(h:Ql)(a b:Qv):(kO h a b).length=16:=pI _ _ _
theorem LI(x y c:Qv)(h:c.toNat<=1)(w:Qk):
  (callFunc 182 #[Qq Qa (U x),Qq Qa (U y),Qq Qa (U c)]).run Qz w=.ok (.value (.tuple #[Qq Qa (U (x+y+c)),Qq Qa (U (pj x y c))])) w:=by
 rw[run_callFunc_extern Tryz.func182 kr kr kr (e:=add64Entry) kr,run_add64 (U x) (U y) (U c) (Cs _) (Cs _) (Cs _) (by unfold U;omega)];have d:=x.isLt;have f:=y.isLt;simp only[Result.andThen];have a:(U x+U y+U c)%18446744073709551616=U (x+y+c):=by
  unfold U;rw[QI,QI];omega
 have b:(U x+U y+U c)/18446744073709551616=U (pj x y c):=by
  unfold pj;rw[<-wK _ oo];unfold U;omega
 rw[a,b]
theorem Be(w:Qk):Sem.run Qz (zeroValue 179) w=.ok (Qt (Bs (aq 16))) w:=kr
theorem Tryz.info16b:(Qz.info? 179).map (·.size)=some 16:=kr
theorem Tf:Ty 179 16:=⟨_,Tryz.underlying179,rfl,Tryz.info16b⟩
theorem abD(x y:Qv)(k:Nat)(a:k<2)(w:Qk):
  (Instr.index 210 (Qt #[Qq Qa (U x),Qq Qa (U y)]) (Qq Qc k)).run Qz w=.ok (Qq Qa (U ([x,y].getD k 0))) w:=by
 obtain rfl|rfl:k=0\/k=1:=oo
 all_goals kernel_rfl
theorem Pz(h:Ql)(e g:Qv)(w:Qk)(E:h.length=5):
  Rw 223 #[Qt (Ws h),Qt (Ws [e,g])] w (Qt (Bs (kO h e g))):=by
 obtain⟨h0,a,h2,b,d,rfl⟩:=uh h E;have J:=Be;have y:bits QE Qa (bits QE Qa (U h0) (Qa.wrap (U a*67108864))) (Qa.wrap (U h2*4503599627370496))=U (fk [h0,a,h2,b,d]):=by
  rw[Bk a 67108864 26 rfl,nT,Bk h2 4503599627370496 52 rfl,nT];rfl
 have z:bits QE Qa (bits QE Qa (U h2/4096) (Qa.wrap (U b*16384))) (Qa.wrap (U d*1099511627776))=U (ka [h0,a,h2,b,d]):=by
  rw[vp h2 4096 12 rfl,Bk b 16384 14 rfl,nT,Bk d 1099511627776 40 rfl,nT];rfl
 have n:=LI (fk [h0,a,h2,b,d]) e 0 dd;have o:=LI (ka [h0,a,h2,b,d]) g (pj (fk [h0,a,h2,b,d]) e 0) (UO _ _ _ dd);rw[show U 0=0 from rfl]at n;have m:=Qh (p:=kO [h0,a,h2,b,d] e g=jf (fk [h0,a,h2,b,d]+e+0) (ka [h0,a,h2,b,d]+g+pj (fk [h0,a,h2,b,d]) e 0) 2) rfl
 generalize kO [h0,a,h2,b,d] e g=R at m|-;generalize pj (fk [h0,a,h2,b,d]) e 0=K at n o m;generalize B:fk [h0,a,h2,b,d]+e+0=X at n m;generalize C:ka [h0,a,h2,b,d]+g+K=Y at o m;clear B C;generalize fk [h0,a,h2,b,d]=lw at n y;generalize ka [h0,a,h2,b,d]=Q at o z;rw[show (Ws [h0,a,h2,b,d])=#[Qq Qa (U h0),Qq Qa (U a),Qq Qa (U h2),Qq Qa (U b),Qq Qa (U d)]from rfl,show (Ws [e,g])=#[Qq Qa (U e),Qq Qa (U g)]from rfl];go_enter Tryz.func223,Tryz.ntmps223;go_wp2_with fail;have k:Blk ((((w.alloc (Qp #[Qq Qa (U h0),Qq Qa (U a),Qq Qa (U h2),Qq Qa (U b),Qq Qa (U d)] 208)).alloc (Qp #[Qq Qa (U e),Qq Qa (U g)] 210)).alloc (Qp (Bs (aq 16)) 179)).alloc (Qp (Bs (aq 16)) 179)) (w.heap.size+1+1) (Bs (aq 16)) 179:=by
  have:=Qx (Qy ((w.alloc (Qp #[Qq Qa (U h0),Qq Qa (U a),Qq Qa (U h2),Qq Qa (U b),Qq Qa (U d)] 208)).alloc (Qp #[Qq Qa (U e),Qq Qa (U g)] 210)) (Bs (aq 16)) 179) (Qp (Bs (aq 16)) 179);simpa using this
 have f:Blk ((((w.alloc (Qp #[Qq Qa (U h0),Qq Qa (U a),Qq Qa (U h2),Qq Qa (U b),Qq Qa (U d)] 208)).alloc (Qp #[Qq Qa (U e),Qq Qa (U g)] 210)).alloc (Qp (Bs (aq 16)) 179)).alloc (Qp (Bs (aq 16)) 179)) (w.heap.size+1+1+1) (Bs (aq 16)) 179:=by
  have:=Qy (((w.alloc (Qp #[Qq Qa (U h0),Qq Qa (U a),Qq Qa (U h2),Qq Qa (U b),Qq Qa (U d)] 208)).alloc (Qp #[Qq Qa (U e),Qq Qa (U g)] 210)).alloc (Qp (Bs (aq 16)) 179)) (Bs (aq 16)) 179;simpa using this
 have l:QD w.heap.size w ((((w.alloc (Qp #[Qq Qa (U h0),Qq Qa (U a),Qq Qa (U h2),Qq Qa (U b),Qq Qa (U d)] 208)).alloc (Qp #[Qq Qa (U e),Qq Qa (U g)] 210)).alloc (Qp (Bs (aq 16)) 179)).alloc (Qp (Bs (aq 16)) 179)):=
  (((bR.alloc nR _).alloc ss _).alloc (by simp;omega) _).alloc (by simp;omega) _
 generalize (((w.alloc (Qp #[Qq Qa (U h0),Qq Qa (U a),Qq Qa (U h2),Qq Qa (U b),Qq Qa (U d)] 208)).alloc (Qp #[Qq Qa (U e),Qq Qa (U g)] 210)).alloc (Qp (Bs (aq 16)) 179)).alloc (Qp (Bs (aq 16)) 179)=L at k f l|-;clear n o y z J;go_loopw [50] (λc wr=> ∃i:Nat,i<=2/\c=Qq Qc i/\Blk wr (w.heap.size+1+1) (Bs (aq 16)) 179/\Blk wr (w.heap.size+1+1+1) (Bs (jf X Y i)) 179/\QD w.heap.size w wr) (λc _=>2-(QC c).toNat)
 case atStart=>exact⟨0,oo,rfl,k,f,l⟩
 case round=>
  clear k f l L;obtain⟨i,N,rfl,k,f,l⟩:=hrel;by_cases I:i<2
  .have S:(i:Int)<2:=oo
   have F:=abD X Y i I;have r:=Qh (p:=jf X Y (i+1)=eg (jf X Y i) (8*i) ([X,Y].getD i 0) 8) rfl
   have q:(jf X Y i).length=16:=pI _ _ _;generalize [X,Y].getD i 0=x at F r;generalize jf X Y i=T at f r q;go_wp2_with fail;go_loopw [54] (λc wr=> ∃j:Nat,j<=8/\c=Qq Qc j/\Blk wr (w.heap.size+1+1) (Bs (aq 16)) 179/\Blk wr (w.heap.size+1+1+1) (Bs (eg T (8*i) x j)) 179/\QD w.heap.size w wr) (λc _=>8-(QC c).toNat)
   case atStart=>exact⟨0,oo,rfl,k,f,l⟩
   case round=>
    clear k f l;obtain⟨j,O,rfl,k,f,l⟩:=hrel;by_cases P:j<8
    .have W:(j:Int)<8:=oo
     have D:=f.cell (8*i+j);rw[pY _ _ (by rw[jp];omega)]at D;have M:=f.frozen (8*i+j);have Z:Qc.wrap (8*(i:Int)+(j:Int))=8*(i:Int)+(j:Int):=by rw[Qd];omega
     have k2:8*(i:Int)+(j:Int)<16:=oo
     have k3:(0:Int)<=8*(i:Int)+(j:Int):=oo
     have k4:(8*(i:Int)+(j:Int)).toNat=8*i+j:=oo
     go_wp2;go_roundw
     case rel=>
      refine⟨j+1,oo,gn,?_,?_,?_⟩
      .rw[f.set];exact k.other oo _
      .rw[f.set,Bc,tn];exact f.row _
      .exact l.setCell (show w.heap.size<=w.heap.size+1+1+1 by omega) _
     case measure=>simp[QC];omega
    .have G:j=8:=oo
     subst G;go_wp2;go_roundw
     case rel=>exact⟨i+1,oo,gn,k,by rw[show jf X Y (i+1)=_ from r.out];exact f,l⟩
     case measure=>simp[QC];omega
  .have H:i=2:=oo
   subst H;have q:(jf X Y 2).length=16:=pI _ _ _;generalize jf X Y 2=T at f m q;have t:=f;have u:=k;unfold Blk at t u;have s:=Bz q;have A:(Bs (aq 16)).size=16:=by rw[rY];rfl
   go_wp2_with (first
    |(refine ld Tf rfl rfl (w.heap.size+1+1+1) rfl t s ?_)
    |(refine st Tf rfl rfl (w.heap.size+1+1) rfl rfl u s A (Pw _) ?_))
   refine Qi (v:=Qt (Bs T)) ?_ rfl ⟨by rw[show R=T from m.out],Qf l oo _⟩;exact rr Tf rfl rfl (k.row _) s
end Go.Proofs.YtclpbaokadfhhaaGreatDoor
