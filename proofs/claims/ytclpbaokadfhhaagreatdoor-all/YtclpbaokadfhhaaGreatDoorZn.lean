import Derived.Test.YtclpbaokadfhhaaGreatDoorZm
set_option maxRecDepth 100000
set_option maxHeartbeats 1000000
open Go.Obj renaming cells->Qa
open List renaming getElem?_mapIdx->Qc,ext_getElem?->Qd,getD->Qe
open Go.Proofs.Tryz renaming prog->Qf
open Go renaming World->Qg,storeCells->Qi,run_storeCells_from->Qj,below_setRow->Qk,Value->Qm
open Go.Value renaming string->Qn,int->Qo,agg->Qp
open BitVec renaming ofNat->Qq
open Go.IntKind renaming i64->Qt,wrap_i64->Qx,u32->Qy
open Array renaming all_eq_true_iff_forall_mem->Qz
open Go.RowKit renaming Below->QA,intOf->QB
namespace Go.Proofs.YtclpbaokadfhhaaGreatDoor
open Go.RowKit
theorem U7{w:Qg}{g t:Nat}{a:Array Qm}{l:List (BitVec 32)}(c:Blk w g a t)(d:a.size=l.length):
  (Qi ⟨g,0,none⟩ (Vs l).toList).run Qf w=.ok () (w.setRow g (Vs l)):=by
 have b:=tU l;have:=Qj (P:=Qf) g t (Vs l).toList 0 a w c (by simp[Bi,d]) (λv e=>(Qz.1 b) v (by simpa using e));rw[this];simp
theorem Va(w:Qg)(a:Array Qm)(t:Nat)(l:List (BitVec 32))(b:a.size=l.length):
  (Qi ⟨w.heap.size,0,none⟩ (Vs l).toList).run Qf (w.alloc (Qa a t))=.ok () (w.alloc (Qa (Vs l) t)):=by
 rw[U7 (Blk.new w a t) b,World.setRow_alloc_new]
theorem M6(w:Qg):Sem.run Qf (zeroValue 176) w=.ok (Qp (Bs (aq 64))) w:=kr
theorem Tryz.info64:(Qf.info? 176).map (·.size)=some 64:=kr
theorem abg:Ty 176 64:=⟨_,Tryz.underlying176,rfl,Tryz.info64⟩
def js(l:List (BitVec 32)):Nat->List (BitVec 32)
 |0=>l
 |n+1=>uY (js l n)
theorem ru(l:List (BitVec 32))(n:Nat):(js l n).length=l.length:=by
 induction n with
 |zero=>rfl
 |succ n a=>simp[js,Lm,a]
def gU(W:Nat->BitVec 32):Nat->List UInt8
 |0=>aq 64
 |k+1=>pK (gU W k) (k*4) (W k) 4
theorem nE(W:Nat->BitVec 32)(k:Nat):(gU W k).length=64:=by
 induction k with
 |zero=>rfl
 |succ k a=>simp only[gU,yv,a]
def wC(key:ByteArray)(c:BitVec 32)(adu:ByteArray)(i:Nat):BitVec 32:=(js (cL (fX key c adu) 16) 10).getD i 0+fX key c adu i
def fm(key:ByteArray)(c:BitVec 32)(adu:ByteArray):List UInt8:=gU (wC key c adu) 16
theorem uz(b:Qb)(c:BitVec 32)(a:Qb):(fm b c a).length=64:=nE _ _
theorem XG(a b i j l m n o p q c d e f g h:BitVec 32)(k:Nat)(r:k<16)(w:Qg):
  (Instr.index 203 (Qp (Vs [a,b,i,j,l,m,n,o,p,q,c,d,e,f,g,h])) (Qo Qt k)).run Qf w=.ok (Qo Qy (V ([a,b,i,j,l,m,n,o,p,q,c,d,e,f,g,h].getD k 0))) w:=by
 obtain rfl|rfl|rfl|rfl|rfl|rfl|rfl|rfl|rfl|rfl|rfl|rfl|rfl|rfl|rfl|rfl:k=0\/k=1\/k=2\/k=3\/k=4\/k=5\/k=6\/k=7\/k=8\/k=9\/k=10\/k=11\/k=12\/k=13\/k=14\/k=15:=oo
 all_goals kernel_rfl
theorem ZU(l:List (BitVec 32))(b:l.length=16)(k:Nat)(a:k<16)(w:Qg):
  (Instr.index 203 (Qp (Vs l)) (Qo Qt k)).run Qf w=.ok (Qo Qy (V (l.getD k 0))) w:=by
 match l,b with
 | [c,d,m,n,o,p,q,r,s,t,e,f,g,h,i,j],_=>exact XG c d m n o p q r s t e f g h i j k a w
theorem LF(f d:Qb)(c:BitVec 32)(w:Qg)(hk:f.size=32)(hn:d.size=12):
  Rw 178 #[Qn f,Qo Qy (V c),Qn d] w (Qp (Bs (fm f c d))):=by
 have hz:=M6;have C:=KH f d c;have s:=Qh (p:=fm f c d=gU (wC f c d) 16) rfl
 have q:Hid (∀i,wC f c d i=(js (cL (fX f c d) 16) 10).getD i 0+fX f c d i):=λi=>rfl
 generalize fm f c d=R at s|-;generalize wC f c d=j at s q;generalize fX f c d=F at C q;have O:=Qh λw=>C w hk hn
 clear C;have r:(cL F 16).length=16:=iK _ _;have P:=Qh λi hi=>GM F i hi
 generalize cL F 16=a at q O r P;have ad:=Blk.new w (Bs (aq 64)) 176;have S:QA w.heap.size w (w.alloc (Qa (Bs (aq 64)) 176)):=bR.alloc nR _;have M:=λwx:Qg=>Va wx Z16 203 a (by rw[r];rfl)
 unfold Z16 at M;go_enter Tryz.func178,Tryz.ntmps178;go_wp2_with fail;refine mo (O.out _) λb D=>?_;have I:=ad.keep D;have y:=S.trans (D.mono ss);clear ad S D;have a9:=Vz r;have Z:=heap_alloc_new b (Qa (Vs a) 203);have ah:=M (b.alloc (Qa (Vs a) 203));rw[show (b.alloc (Qa (Vs a) 203)).heap.size=b.heap.size+1 by simp]at ah;go_wp2_with (refine ld pZ rfl rfl b.heap.size rfl Z a9 ?_);clear M ah Z;have h:Blk ((b.alloc (Qa (Vs a) 203)).alloc (Qa (Vs a) 203)) b.heap.size (Vs a) 203:=heap_alloc2_old b _ _;have l:Blk ((b.alloc (Qa (Vs a) 203)).alloc (Qa (Vs a) 203)) (b.heap.size+1) (Vs a) 203:=heap_alloc2_new b _ _;have g:Blk ((b.alloc (Qa (Vs a) 203)).alloc (Qa (Vs a) 203)) w.heap.size (Bs (aq 64)) 176:=(I.alloc _).alloc _;have a8:=I.lt;have x:QA w.heap.size w ((b.alloc (Qa (Vs a) 203)).alloc (Qa (Vs a) 203)):=(y.alloc y.size _).alloc (by simp;omega) _;have ao:((b.alloc (Qa (Vs a) 203)).alloc (Qa (Vs a) 203)).heap.size=b.heap.size+2:=ss
 have m:=Qh ao;clear ao I y;generalize (b.alloc (Qa (Vs a) 203)).alloc (Qa (Vs a) 203)=w2 at h l g x m|-;generalize b.heap.size=p at h l a8 m|-;clear b;go_loopw [17] (λi wr=> ∃k:Nat,k<=10/\i=Qo Qt k/\Blk wr (p+1) (Vs (js a k)) 203/\Blk wr p (Vs a) 203/\Blk wr w.heap.size (Bs (aq 64)) 176/\QA w.heap.size w wr/\wr.heap.size=p+2) (λi _=>10-(QB i).toNat)
 case atStart=>exact⟨0,Nat.zero_le _,rfl,l,h,g,x,m.out⟩
 case round=>
  clear h l g x m w2;obtain⟨k,bb,rfl,l,h,g,o,an⟩:=hrel;have m:=Qh an;clear an;by_cases K:k<10
  .have i0:(k:Int)<10:=oo
   go_wp2_with fail;refine(abj (p+1) _ wr l (by rw[ru,r])).mono ?_;rintro e w3 h3;obtain⟨rfl,a0,B,ab⟩:=h3;have ax:=Qh ab;clear ab;go_wp2;go_roundw
   case rel=>exact⟨k+1,oo,gn,a0,h.below B oo,g.below B oo,o.trans (B.mono oo),ax.out.trans m.out⟩
   case measure=>simp[QB];omega
  .have W:k=10:=oo
   subst W;rw[show ((10:Nat):Int)=10 from rfl];have J:(js a 10).length=16:=by rw[ru,r]
   generalize js a 10=T at l q J;have ba:=Vz J;have gT:(wr.alloc (Qa (Bs (aq 64)) 176)).heap[p+1]? =some (Qa (Vs T) 203 (0,0)):=l.alloc _;have G:=h.alloc (Qa (Bs (aq 64)) 176);have E:=g.alloc (Qa (Bs (aq 64)) 176);have n:=Blk.new wr (Bs (aq 64)) 176;have H:QA w.heap.size w (wr.alloc (Qa (Bs (aq 64)) 176)):=o.alloc o.size _;have ap:=m.out;rw[ap]at n;go_wp2_with (refine ld pZ rfl rfl (p+1) rfl gT ba ?_);clear gT l h g o m;generalize wr.alloc (Qa (Bs (aq 64)) 176)=w4 at G E n H|-;clear ap wr;go_loopw [22] (λi wr=> ∃k:Nat,k<=16/\i=Qo Qt k/\Blk wr (p+2) (Bs (gU j k)) 176/\Blk wr p (Vs a) 203/\Blk wr w.heap.size (Bs (aq 64)) 176/\QA w.heap.size w wr) (λi _=>16-(QB i).toNat)
   case atStart=>exact⟨0,Nat.zero_le _,rfl,n,G,E,H⟩
   case round=>
    clear n G E H w4;obtain⟨k,W,rfl,n,h,g,o⟩:=hrel;by_cases K:k<16
    .have i0:(k:Int)<16:=oo
     have a6:=ZU T J k K;have hc:=h.cell k;rw[ui _ _ oo,P.out k K]at hc;have t:=Qh (q.out k);have L:=
      NQ (p+2) (k*4) (64-k*4) (64-k*4) 176 (gU j k) (j k) wr.drew oo oo oo n (by rw[nE];omega)
     have a1:Qt.wrap ((k:Int)*4)=(k:Int)*4:=by rw[Qx];omega
     have a2:(k:Int)*4<=64:=oo
     have a3:(0:Int)<=(k:Int)*4:=oo
     have a4:((k:Int)*4).toNat=k*4:=oo
     have a5:¬64=k*4:=oo
     generalize T.getD k 0=N at a6 t;generalize F k=z at hc t;rw[show j k=N+z from t.out,<-Cr]at L;have ay:=Qh L;clear L;go_wp2_with fail;go_region_with (first|(go_at_call 216;refine ay.out.mono ?_;rintro e w' ⟨rfl,rfl⟩))
     all_goals
      go_wp2;go_roundw
      case rel=>exact⟨k+1,oo,gn,(show gU j (k+1)=pK (gU j k) (k*4) (N+z) 4 by rw[gU,show j k=N+z from t.out])▸n.row _,h.other oo _,g.other oo _,Qk o.drew oo _⟩
      case measure=>simp[QB];omega
    .have a7:k=16:=oo
     subst a7;have X:=g;have A:=n;unfold Blk at X A;have ag:(gU j 16).length=64:=nE _ _;generalize gU j 16=Q at A ag s;have u:=Bz ag;have az:(Bs (aq 64)).size=64:=by rw[rY];rfl
     go_wp2_with (first
      |(refine ld abg rfl rfl (p+2) rfl A u ?_)
      |(refine wpList_store_row rfl 176 _ _ rfl w.heap.size _ rfl rfl 176 _ X (by rw[u];exact Tryz.info64) (by rw[u,az]) (Pw _) ?_))
     refine bodyPost_ret (v:=Qp (Bs Q)) ?_ rfl ⟨by rw[show R=Q from s.out],Qk o nR _⟩;exact rr abg rfl rfl (g.row _) u
def kQ(key adu:ByteArray)(i:Nat):UInt8:=(fm key (Qq 32 (i/64+1)) adu).getD (i%64) 0
def dR(S:Nat->UInt8)(l:List UInt8)(n:Nat):List UInt8:=l.mapIdx λi x=>if i<n then x^^^S i else x
theorem kv(S:Nat->UInt8)(l:Qu)(n:Nat):(dR S l n).length=l.length:=by simp[dR]
theorem DN(S:Nat->UInt8)(l:Qu):dR S l 0=l:=by
 apply Qd
 intro i;simp[dR,Qc]
theorem GL(S:Nat->UInt8)(l:Qu)(n:Nat)(h:n<l.length):(dR S l n).getD n 0=l.getD n 0:=by
 simp[dR,Qe,h]
theorem Fh(S:Nat->UInt8)(l:Qu)(n:Nat)(h:n<l.length):(dR S l n).set n (l.getD n 0^^^S n)=dR S l (n+1):=by
 apply Qd
 intro i;rw[List.getElem?_set];by_cases e:n=i
 .subst e;simp[dR,h,Qe]
 .rw[if_neg e];simp only[dR,Qc];by_cases h2:i<n
  .simp[h2,show i<n+1 by omega]
  .simp[h2,show¬i<n+1 by omega]
def bQ(key adu data:ByteArray):ByteArray:=⟨(dR (kQ key adu) data.data.toList data.size).toArray⟩
theorem rK(b a data:Qb):(bQ b a data).size=data.size:=by
 show(dR (kQ b a) data.data.toList data.size).toArray.size=data.size
 simp[kv]
theorem r8{w:Qg}{g t:Nat}{a:Array Qm}{l:Qu}(c:Blk w g a t)(d:a.size=l.length):
  (Qi ⟨g,0,none⟩ (Bs l).toList).run Qf w=.ok () (w.setRow g (Bs l)):=by
 have b:=Pw l;have:=Qj (P:=Qf) g t (Bs l).toList 0 a w c (by simp[rY,d]) (λv e=>(Qz.1 b) v (by simpa using e));rw[this];simp
theorem DS(w:Qg)(a:Array Qm)(t:Nat)(l:Qu)(b:a.size=l.length):
  (Qi ⟨w.heap.size,0,none⟩ (Bs l).toList).run Qf (w.alloc (Qa a t))=.ok () (w.alloc (Qa (Bs l) t)):=by
 rw[r8 (Blk.new w a t) b,World.setRow_alloc_new]
theorem uM(S:Nat->UInt8)(l:Qu)(n:Nat)(h:l.length<=n):dR S l n=dR S l l.length:=by
 apply Qd
 intro i;simp only[dR,Qc];by_cases h2:i<l.length
 .simp[h2,show i<n by omega]
 .simp[h2]
theorem Nd(d c data:Qb)(w:Qg)(J:d.size=32)(Q:c.size=12)(hd:data.size<=1000000):
  Rw 119 #[Qn d,Qn c,Qn data] w (Qn (bQ d c data)):=by
 have hz:=M6;obtain⟨cap,T,H,b,e⟩:=bytesOf data w.heap.size w nR;replace b:=b.at;have G:=Qh λx X=>LF d c x X J Q
 have u:=Qh (p:=bQ d c data=⟨(dR (kQ d c) data.data.toList data.size).toArray⟩) rfl
 have r:data.data.toList.length=data.size:=ss
 generalize bQ d c data=R at u|-;generalize data.data.toList=l at u b r;go_enter Tryz.func119,Tryz.ntmps119;go_wp2_with fail;clear H;go_loopw [8] (λi wr=> ∃j:Nat,64*j<data.size+64/\i=Qo Qt (64*j:Nat)/\OwnR wr w.heap.size cap (dR (kQ d c) l (64*j))/\QA w.heap.size w wr) (λi _=>data.size+64-(QB i).toNat)
 case atStart=>exact⟨0,oo,rfl,by rw[Nat.mul_zero,DN];exact b,e⟩
 case round=>
  clear b e T;obtain⟨j,I,rfl,b,e⟩:=hrel;by_cases L:64*j<data.size
  .have B:=b.lt;generalize F:64*j=a at I L b;have f:=Qh F;clear F;go_wp2_with fail;have z:(a:Int)/64+1=V (Qq 32 (j+1)):=by
    rw[<-TJ (j+1) (by have:=f.out;omega)];have:=f.out;omega
   rw[z];refine mo (G.out _ _) λo q=>?_;have A:(fm d (Qq 32 (j+1)) c).length=64:=uz _ _ _;have C:Hid (∀i,i<64->(fm d (Qq 32 (j+1)) c).getD i 0=kQ d c (a+i)):=λi hi=>by
    unfold kQ;rw[show (a+i)/64=j by have:=f.out;omega,show (a+i)%64=i by have:=f.out;omega]
   generalize fm d (Qq 32 (j+1)) c=M at A C|-;generalize Qq 32 (j+1)=cx at z|-;have ax:=Bz A;have S:=DS o (Bs (aq 64)) 176 M (by rw[A,rY];rfl);have s:=(b.below q B).alloc (Qa (Bs M) 176);have N:=(b.below q B).lt;have g:=Blk.new o (Bs M) 176;have v:QA w.heap.size w (o.alloc (Qa (Bs M) 176)):=(e.trans (q.mono e.size)).alloc oo _;clear b e q;have Z:data.size<=cap:=by obtain⟨_,_,_,_,_,h,_⟩:=s;rw[kv,r]at h;exact h
   obtain⟨m,ag,ah,an,O⟩:∃m:Nat,0<m/\m<=64/\a+m<=data.size/\(m=64\/a+m=data.size):=by
    by_cases h:a+64<=data.size
    .exact⟨64,oo,oo,oo,.inl rfl⟩
    .exact⟨data.size-a,oo,oo,oo,.inr oo⟩
   have P:min ((a:Int)+64) (data.size:Int)=(a:Int)+(m:Int):=oo
   have ao:(a:Int)+(m:Int)<=cap:=oo
   have ap:¬cap=a:=oo
   go_wp2_with fail;clear S z P;generalize o.heap.size=p at N g|-;generalize o.alloc (Qa (Bs M) 176)=W at s g v|-;clear o B;go_loopw [35] (λi wr=> ∃k:Nat,k<=m/\i=Qo Qt k/\OwnR wr w.heap.size cap (dR (kQ d c) l (a+k))/\Blk wr p (Bs M) 176/\QA w.heap.size w wr) (λi _=>m-(QB i).toNat)
   case atStart=>exact⟨0,Nat.zero_le _,rfl,s,g,v⟩
   case round=>
    clear s g v W;obtain⟨k,ab,rfl,b,g,e⟩:=hrel;by_cases ad:k<m
    .have D:=b.cell (a+k) (by rw[kv];omega);rw[GL _ _ _ oo]at D;have h2:=b.frozen (a+k) (by rw[kv];omega);have E:=g.cell k;rw[pY _ _ oo,C.out k oo]at E;have t:Hid ((dR (kQ d c) l (a+k)).set (a+k) (l.getD (a+k) 0^^^kQ d c (a+k))=dR (kQ d c) l (a+k+1)):=Fh _ _ _ oo;generalize l.getD (a+k) 0=x at D t;generalize kQ d c (a+k)=y at E t;have i1:(k:Int)<m:=oo
     have i2:Qt.wrap ((a:Int)+(k:Int))=(a:Int)+(k:Int):=by rw[Qx];omega
     have i3:(a:Int)+(k:Int)<data.size:=oo
     have i4:(k:Int)<64:=oo
     have i5:((a:Int)+(k:Int)).toNat=a+k:=oo
     have i6:(0:Int)<=(a:Int)+(k:Int):=oo
     go_wp2_with fail;go_region
     go_wp2;go_roundw
     case rel=>exact⟨k+1,oo,gn,by rw[za,<-Nat.add_assoc,<-show _=_ from t.out];exact(b.set _ _).drew,(g.otherCell b oo _).drew,(e.setCell nR _).drew⟩
     case measure=>simp[QB];omega
    .have K:k=m:=oo
     subst K;go_wp2;go_roundw
     case rel=>
      refine⟨j+1,by have:=f.out;omega,cH (by have:=f.out;omega),?_,e⟩;rcases O with h|h
      .rw[show 64*(j+1)=a+k by have:=f.out;omega];exact b
      .rw[uM _ _ (64*(j+1)) (by have:=f.out;omega),<-uM _ _ (a+k) oo];exact b
     case measure=>simp[QB];have:=f.out;omega
  .rw[uM _ _ (64*j) oo,r]at b;have ay:=lW (n:=data.size) b (by rw[kv,r]);go_wp2;go_ret;exact⟨by rw[show R=_ from u.out];rfl,e⟩
end Go.Proofs.YtclpbaokadfhhaaGreatDoor
