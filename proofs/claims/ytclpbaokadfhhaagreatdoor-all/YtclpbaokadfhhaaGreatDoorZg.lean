import Derived.Test.YtclpbaokadfhhaaGreatDoorZd
set_option maxRecDepth 100000
set_option maxHeartbeats 4000000
open Go.Proofs.YtclpbaokadfhhaaGreatDoor renaming Fd_none16->Qa,Fd_Good->Qc,Fd_Bd->Qd
open Go.IntKind renaming i64->Qe,wrap_i64->Qf,u8->Qg,wrap_u8'->Qi
open Go renaming below_setRow->Qj,heap_alloc2_old->Qk,heap_alloc2_new->Qm,World->Qn,bodyPost_ret->Qo
open Go.Obj renaming cells->Qp
open Go.Value renaming int->Qq,string->Qt,agg->Qx,slice->Qy
open Go.RowKit renaming Below->Qz,intOf->QA
open List renaming replicate->QB,length_set->QC,set_eq_of_length_le->QD
open UInt8 renaming ofNat->QE
open Go.Proofs.Tryz renaming prog->QG
namespace Go.Proofs.YtclpbaokadfhhaaGreatDoor
open Go.RowKit
open Blk renaming new->QF
def iG(a bits:List Int):Nat->List Int
 |0=>am 1
 |i+1=>if bits.getD i 0=1 then af (af (iG a bits i) (iG a bits i)) a else af (iG a bits i) (iG a bits i)
def oA(a bits:List Int):List Int:=iG a bits bits.length
theorem yu(a c:List Int)(d:Qc a)(i:Nat):Qc (iG a c i):=by
 induction i with
 |zero=>exact oa 1 oo oo
 |succ i b=>
  rw[iG];split
  .exact aA _ _ (aA _ _ b b) d
  .exact aA _ _ b b
theorem U8{w:Qn}{g t:Nat}{a:Array Value}{l:List Int}(c:Blk w g a t)(d:a.size=l.length):
  (storeCells ⟨g,0,none⟩ (Ns l).toList).run QG w=.ok () (w.setRow g (Ns l)):=by
 have b:=aK l;have:=run_storeCells_from (P:=QG) g t (Ns l).toList 0 a w c (by simp[jn,d]) (λv e=>(Array.all_eq_true_iff_forall_mem.1 b) v (by simpa using e));rw[this];simp
theorem Lt(a b:List Int)(A cb:Nat)(w:Qn)(Z:Qc a)(hn:b.length<=1000)(ax:∀i,i<b.length->w.cell? ⟨A,i,none⟩=some (Qq Qe (b.getD i 0)))(bi:A<w.heap.size):
  Rw 145 #[Qx (Ns a),Qy (some ⟨A,0,none⟩) b.length cb] w (Qx (Ns (oA a b))):=by
 have bs:=Nz Z.1;have hz:=oe;have y:=Qh Z;clear Z;have ah:=Qh ax;clear ax;have O:Hid (oA a b=iG a b b.length):=rfl;generalize oA a b=R at O|-;generalize bx:b.length=n at hn ah O|-;clear bx;have u:Blk ((w.alloc (Qp (Ns a) 59)).alloc (Qp (Ns Qa) 59)) w.heap.size (Ns a) 59:=Qk w _ _;have s:Blk ((w.alloc (Qp (Ns a) 59)).alloc (Qp (Ns Qa) 59)) (w.heap.size+1) (Ns Qa) 59:=Qm w _ _;have j:Qz w.heap.size w ((w.alloc (Qp (Ns a) 59)).alloc (Qp (Ns Qa) 59)):=(bR.alloc nR _).alloc ss _;go_enter Tryz.func145,Tryz.ntmps145;go_wp2_with fail;generalize (w.alloc (Qp (Ns a) 59)).alloc (Qp (Ns Qa) 59)=w1 at u s j|-;refine mo (mL 1 _) λD J=>?_;have a2:=u.keep J;have ab:=s.keep J;have P:=j.trans (J.mono j.size);have a6:=U8 (l:=am 1) (QF D (Ns Qa) 59) rfl;rw[World.setRow_alloc_new]at a6;have bz:(Ns (am 1)).size=16:=rfl;have ad:=a2.alloc (Qp (Ns (am 1)) 59);have ag:=ab.alloc (Qp (Ns (am 1)) 59);have L:=QF D (Ns (am 1)) 59;have Q:Qz w.heap.size w (D.alloc (Qp (Ns (am 1)) 59)):=P.alloc P.size _;have hC:=ab.lt;clear u s j a2 ab P J;go_wp2_with fail;generalize D.alloc (Qp (Ns (am 1)) 59)=w3 at ad ag L Q|-;generalize D.heap.size=g at L hC|-;clear a6;go_loopw [6] (λq wr=> ∃k:Nat,k<=n/\q=Qq Qe k/\Blk wr g (Ns (iG a b k)) 59/\Blk wr w.heap.size (Ns a) 59/\Blk wr (w.heap.size+1) (Ns Qa) 59/\Qz w.heap.size w wr) (λq _=>n-(QA q).toNat)
 case atStart=>exact⟨0,oo,rfl,L,ad,ag,Q⟩
 case round=>
  clear ad ag L Q;obtain⟨k,hk,rfl,x,u,s,j⟩:=hrel;by_cases bq:k<n
  .have i0:(k:Int)<n:=oo
   have h:=yu a b y.out k;have C:=aA _ _ h h;have r:Hid (iG a b (k+1)=if b.getD k 0=1 then af (af (iG a b k) (iG a b k)) a else af (iG a b k) (iG a b k)):=rfl;have ao:=ah.out k bq;have a1:∀wx,Qz w.heap.size w wx->wx.cell? ⟨A,k,none⟩=some (Qq Qe (b.getD k 0)):=λwx hx=>(hx.cell (p:=⟨A,k,none⟩) bi).trans ao
   clear ao;have M:=Qh a1;clear a1;generalize iG a b k=c at h C r x;generalize a3:af c c=d at C r;have an:=Qh a3;clear a3;have o:=Qh h;have N:=Qh C;have F:=Nz h.1;have G:=Nz C.1;clear h C;have I:=x;unfold Blk at I;generalize b.getD k 0=S at M r;by_cases t:S=1
   .have db:(S==1)=true:=by rw[beq_iff_eq];exact t
    rw[if_pos t]at r;have HN:=Qh t;clear t;have a5:=aA _ _ N.out y.out;have ee:=Nz a5.1;clear a5;generalize a4:af d a=f at r ee;have a8:=Qh a4;clear a4;have a7:=trivial;go_wp2_with (first
     |(refine ld t59 rfl rfl g rfl I F ?_)
     |(go_at_call 84;have _:=a7;refine(Ik c c _ o.out.1 o.out.1 o.out.bd o.out.bd).mono ?_;rw[show af c c=d from an.out];rintro e E ⟨rfl,m⟩;clear a7 I;have B:=x.keep m;have W:=u.keep m;have X:=s.keep m;have z:=j.trans (m.mono j.size);have H:E.heap[g]? =_:=B;have bh:=M.out _ (Qj z (by omega:w.heap.size<=g) (Ns d));have az:=B.row (Ns d);have ay:=W.other oo (b':=g) (Ns d);have ba:=X.other oo (b':=g) (Ns d);have ap:=Qj z (by omega:w.heap.size<=g) (Ns d);have g5:(E.setRow g (Ns d)).heap[g]? =_:=az;have g6:(E.setRow g (Ns d)).heap[w.heap.size]? =_:=ay)
     |(refine stN rfl rfl g rfl rfl H G F ?_;clear H)
     |(refine ld t59 rfl rfl g rfl g5 G ?_)
     |(refine ld t59 rfl rfl w.heap.size rfl g6 bs ?_)
     |(go_at_call 84;refine(Ik d a _ N.out.1 y.out.1 N.out.bd y.out.bd).mono ?_;rw[show af d a=f from a8.out];rintro e w6 ⟨rfl,K⟩;clear g5 g6;have a0:=az.keep K;have a9:=ay.keep K;have bb:=ba.keep K;have bd:=ap.trans (K.mono ap.size);have g7:w6.heap[g]? =_:=a0)
     |(refine stN rfl rfl g rfl rfl g7 ee G ?_))
    go_roundw
    case rel=>
     refine⟨k+1,oo,gn,?_,a9.other oo _,bb.other oo _,Qj bd oo _⟩;rw[show iG a b (k+1)=f from r.out];exact a0.row _
    case measure=>simp[QA];omega
   .have db:(S==1)=false:=by rw[beq_eq_false_iff_ne];exact t
    rw[if_neg t]at r;have HN:=Qh t;clear t;go_wp2_with (first
     |(refine ld t59 rfl rfl g rfl I F ?_)
     |(go_at_call 84;refine(Ik c c _ o.out.1 o.out.1 o.out.bd o.out.bd).mono ?_;rw[show af c c=d from an.out];rintro e E ⟨rfl,m⟩;have B:=x.keep m;have W:=u.keep m;have X:=s.keep m;have z:=j.trans (m.mono j.size);have H:E.heap[g]? =_:=B;have bh:=M.out _ (Qj z (by omega:w.heap.size<=g) (Ns d)))
     |(refine stN rfl rfl g rfl rfl H G F ?_))
    go_roundw
    case rel=>
     refine⟨k+1,oo,gn,?_,W.other oo _,X.other oo _,Qj z oo _⟩;rw[show iG a b (k+1)=d from r.out];exact B.row _
    case measure=>simp[QA];omega
  .have bk:k=n:=oo
   subst bk;have h:=yu a b y.out k;rw[<-show R=iG a b k from O.out]at x h;have g0:=x;have g1:=s;unfold Blk at g0 g1;have T:=Nz h.1;clear h;go_wp2_with (first
    |(refine ld t59 rfl rfl g rfl g0 T ?_)
    |(refine stN rfl rfl (w.heap.size+1) rfl rfl g1 T rfl ?_))
   refine Qo (v:=Qx (Ns R)) ?_ rfl ⟨rfl,Qj j oo _⟩;exact rr t59 rfl rfl (s.row _) T
def fh(a:List Int):List Int:=oA a (gr [0,1,0,1,1] 255)
theorem xK(a b:List Int)(c:Qc a):Qc (oA a b):=yu a b c _
theorem j8(a:List Int)(b:Qc a):Qc (fh a):=xK _ _ b
theorem qH(b:List Int)(a:Nat)(h:b.length<=a):(gr b a).length=a:=by simp[gr];omega
theorem Vk(a b:List Int)(g n cap d:Nat)(w:Qn)(e:Qc a)(h:b.length<=1000)(j:n=b.length)(h0:0<n)(c:OwnI w d (Qy (some ⟨g,0,none⟩) n cap) b):
  Rw 145 #[Qx (Ns a),Qy (some ⟨g,0,none⟩) n cap] w (Qx (Ns (oA a b))):=by
 subst j;exact Lt a b g cap w e h (λi f=>c.cell i f) (block_lt_of_cell (c.cell 0 h0))
theorem tS(a:List Int)(w:Qn)(c:Qc a):
  Rw 85 #[Qx (Ns a)] w (Qx (Ns (fh a))):=by
 have C:=Nz c.1;have E:=oe;have t:=j8 a c;have u:=Qh c;clear c;have f:=Nz t.1;clear t;have l:Hid (oA a (gr [0,1,0,1,1] 255)=fh a):=rfl;generalize fh a=R at l f|-;have p:Blk ((w.alloc (Qp (Ns a) 59)).alloc (Qp (Ns Qa) 59)) w.heap.size (Ns a) 59:=Qk w _ _;have b:Blk ((w.alloc (Qp (Ns a) 59)).alloc (Qp (Ns Qa) 59)) (w.heap.size+1) (Ns Qa) 59:=Qm w _ _;have n:Qz w.heap.size w ((w.alloc (Qp (Ns a) 59)).alloc (Qp (Ns Qa) 59)):=(bR.alloc nR _).alloc ss _;have k:((w.alloc (Qp (Ns a) 59)).alloc (Qp (Ns Qa) 59)).heap.size=w.heap.size+1+1:=ss
 have j:=QF ((w.alloc (Qp (Ns a) 59)).alloc (Qp (Ns Qa) 59)) (Ns [0,1,0,1,1]) 3;have q:=p.alloc (Qp (Ns [0,1,0,1,1]) 3);have r:=b.alloc (Qp (Ns [0,1,0,1,1]) 3);have d:Qz w.heap.size w (((w.alloc (Qp (Ns a) 59)).alloc (Qp (Ns Qa) 59)).alloc (Qp (Ns [0,1,0,1,1]) 3)):=n.alloc (by rw[k];omega) _;rw[k]at j;clear p b n k;go_enter Tryz.func85,Tryz.ntmps85;go_wp2_with fail;rw[show (#[Qq Qe 0,Qq Qe 1,Qq Qe 0,Qq Qe 1,Qq Qe 1]:Array Value)=Ns [0,1,0,1,1]from rfl];generalize ((w.alloc (Qp (Ns a) 59)).alloc (Qp (Ns Qa) 59)).alloc (Qp (Ns [0,1,0,1,1]) 3)=F at j q r d|-;refine(Nu [0,1,0,1,1] _ 255 _ _ _ rfl oo dd dd (λi B=>by rw[j.cell i];exact mu _ i B)).mono ?_;rintro e G ⟨g,cap,rfl,x,b⟩;have z:=q.keep b;have s:=r.keep b;have m:=d.trans (b.mono d.size);have o:=z;unfold Blk at o;go_wp2_with (first
  |(refine ld t59 rfl rfl w.heap.size rfl o C ?_)
  |(go_at_call 145;refine(Vk a _ g _ cap _ _ u.out ?_ ?_ ?_ x).mono ?_;(rw[qH _ _ dd];omega);(rw[qH _ _ dd]);decide;rw[show oA a _=R from l.out];rintro e D ⟨rfl,h⟩;have y:D.heap[w.heap.size+1]? =_:=s.keep h)
  |(refine stN rfl rfl (w.heap.size+1) rfl rfl y f rfl ?_))
 have A:=s.keep h;refine Qo (v:=Qx (Ns R)) ?_ rfl ⟨rfl,Qj (m.trans (h.mono m.size)) oo _⟩;exact rr t59 rfl rfl (A.row _) f
def dj(n:Nat):Nat->List UInt8
 |0=>[]
 |k+1=>dj n k++ [QE (n/256^k%256)]
theorem cJ(n k:Nat):(dj n k).length=k:=by
 induction k with
 |zero=>rfl
 |succ k a=>simp[dj,a]
theorem mN(m q:Int)(n k:Nat)(u:m=(n:Int))(y:q=(k:Int))(v:n<=4503599627370496)(B:k<=1000)(w:Qn):
  Rw 75 #[Qq Qe m,Qq Qe q] w (Qt ⟨(dj n k).toArray⟩):=by
 subst u y;go_enter Tryz.func75,Tryz.ntmps75;go_wp2;go_loopw [0,5,6] (λa s i wr=> ∃j:Nat,j<=k/\i=Qq Qe j/\a=Qq Qe ((n/256^j:Nat):Int)/\s=Qt ⟨(dj n j).toArray⟩/\Qz w.heap.size w wr) (λ_ _ i _=>k-(QA i).toNat)
 case atStart=>exact⟨0,oo,rfl,ss,rfl,Below.refl _ _⟩
 case round=>
  obtain⟨j,A,rfl,rfl,rfl,c⟩:=hrel;by_cases C:j<k
  .have D:(j:Int)<k:=oo
   have t:n/256^j<=4503599627370496:=Nat.le_trans (Nat.div_le_self _ _) v;have d:n/256^(j+1)=n/256^j/256:=by rw[Nat.pow_succ,Nat.div_div_eq_div_mul]
   have b:Hid (dj n (j+1)=dj n j++ [QE (n/256^j%256)]):=rfl;have r:=cJ n j;generalize n/256^j=x at t d b|-;have l:=Qh d;clear d;have h:=gc (cap:=1) (QF wr (Bs [QE (x%256)]) 5) 1 rfl;have g:(#[Qq Qg ((x:Int)%256)]:Array Value)=Bs [QE (x%256)]:=by simp[Bs]
   rw[<-g]at h;clear g;generalize f:dj n j=L at r b;have z:=Qh f;clear f;generalize o:QE (x%256)=e at h b;clear o;have E:Qg.wrap ((x:Int)%256)=(x:Int)%256:=by rw[Qi];omega
   go_wp2;go_roundw
   case rel=>
    refine⟨j+1,oo,gn,cH (by rw[show n/256^(j+1)=x/256 from l.out];omega),?_,c.alloc c.size _⟩;rw[show dj n (j+1)=L++ [e]from b.out];exact congrArg Qt (ByteArray.mk_append_mk L [e])
   case measure=>simp[QA];omega
  .have p:j=k:=oo
   subst p;go_wp2;go_ret;exact⟨rfl,c⟩
def Fd_Fine(l:List Int):Prop:=l.length=16/\(-38<=l.getD 0 0/\l.getD 0 0<=65573)/\ ∀i,1<=i->0<=l.getD i 0/\l.getD i 0<=65535
def Fd_Norm(l:List Int):Prop:=l.length=16/\ ∀i,0<=l.getD i 0/\l.getD i 0<=65535
theorem Fd_Fine.bd{l:List Int}(h:Fd_Fine l):Qd 1125899906842624 l:=λi=>by
 by_cases e:i=0
 .subst e;have:=h.2.1;omega
 .have:=h.2.2 i oo;omega
theorem DL(l:List Int)(b:l.length=16)(h:Qd 1125899906842624 l):Fd_Fine (bO l):=by
 have a:=uu l b h;refine⟨a.1,a.2 0,λi d=>?_⟩;have e:bO l=cB (cB l 16) 16:=rfl;rw[e];by_cases c:i<16
 .rw[xL _ (by rw[fg,b]) i c,if_neg oo];omega
 .rw[yT _ _ (by rw[fg,fg];omega)];omega
theorem EZ(l:List Int)(h:Fd_Fine l):Fd_Norm (cB l 16):=by
 obtain⟨b,h0,m⟩:=h;refine⟨by rw[fg,b],λi=>?_⟩;by_cases k:i<16
 .rw[xL l b i k];have q:∀d,d<=15->(-1<=fj l (1+d)/\fj l (1+d)<=1)/\(fj l (1+d)=1->65536<=l.getD 0 0)/\(fj l (1+d)= -1->l.getD 0 0<0):=λd=>by
   induction d with
   |zero=>intro _;simp only[fj];omega
   |succ d n=>
    intro r;have a:=n oo;have h2:=m (1+d) oo;have e:fj l (1+(d+1))=(l.getD (1+d) 0+fj l (1+d))/65536:=rfl;rw[e];refine⟨oo,λh=>a.2.1 oo,λh=>a.2.2 oo⟩
  have c:=q 15 oo;have j:fj l (1+15)=fj l 16:=rfl;rw[j]at c;split
  .obtain⟨⟨s,t⟩,o,p⟩:=c;by_cases f:fj l 16=1
   .have:=o f;omega
   .by_cases g:fj l 16= -1
    .have:=p g;omega
    .omega
  .omega
 .rw[yT _ _ (by rw[fg];omega)];omega
theorem Fd_Norm.fine{l:List Int}(h:Fd_Norm l):Fd_Fine l:=⟨h.1,by have:=h.2 0;omega,λi _=>h.2 i⟩
theorem DJ(l:List Int)(h:Fd_Fine l):Fd_Norm (bO l):=by
 have h2:=EZ l h;have a:=EZ _ h2.fine;have e:bO l=cB (cB l 16) 16:=rfl;rw[e];exact a
def iH(i:Nat):Int:=if i=0 then 65517 else if i=15 then 32767 else 65535
def lU(a:List Int):Nat->Int
 |0=>0
 |i+1=>(a.getD i 0-iH i+lU a i)/65536
def fO(a:List Int):Nat->List Int
 |0=>Qa
 |i+1=>(fO a i).set i ((a.getD i 0-iH i+lU a i)%65536)
theorem kW(a:List Int)(k:Nat):(fO a k).length=16:=by
 induction k with
 |zero=>rfl
 |succ k b=>rw[fO,QC,b]
def nA(a:List Int):List Int:=if lU a 16=0 then fO a 16 else a
theorem R6(i:Nat):0<=iH i/\iH i<=65535:=by unfold iH;split<;>(try split)<;>omega
theorem Hl(a:List Int)(h:Fd_Norm a)(i:Nat): -1<=lU a i/\lU a i<=0:=by
 induction i with
 |zero=>simp only[lU];omega
 |succ i c=>have b:=h.2 i;have h2:=R6 i;simp only[lU];omega
theorem E9(a:List Int)(k:Nat):∀i,0<=(fO a k).getD i 0/\(fO a k).getD i 0<=65535:=by
 induction k with
 |zero=>intro i;show 0<=(QB 16 (0:Int)).getD i 0/\(QB 16 (0:Int)).getD i 0<=65535;rw[pE];omega
 |succ k b=>
  intro i;rw[fO];by_cases e:k=i
  .subst e;by_cases c:k<16
   .rw[dF _ _ _ (by rw[kW];omega)];omega
   .rw[QD (by rw[kW];omega)];exact b k
  .rw[jg _ _ _ _ e];exact b i
theorem wl(a:List Int)(h:Fd_Norm a):Fd_Norm (nA a):=by
 unfold nA;split
 .exact⟨kW _ _,E9 _ _⟩
 .exact h
def mS(a:List Int):Nat->List UInt8
 |0=>[]
 |k+1=>mS a k++dj (a.getD k 0).toNat 2
theorem uH(a:List Int)(k:Nat):(mS a k).length=2*k:=by
 induction k with
 |zero=>rfl
 |succ k b=>simp[mS,b,cJ];omega
def bF(a:List Int):List UInt8:=mS (nA (nA (bO (bO a)))) 16
theorem iE(a:List Int):(bF a).length=32:=uH _ _
def pS(a:List Int):Nat->List Int
 |0=>a
 |k+1=>nA (pS a k)
theorem DI(a:List Int)(h:Fd_Norm a)(k:Nat):Fd_Norm (pS a k):=by
 induction k with
 |zero=>exact h
 |succ k b=>exact wl _ b
theorem Cb(a:List Int)(w:Qn)(X:a.length=16)(W:Qd 1125899906842624 a):
  Rw 87 #[Qx (Ns a)] w (Qt ⟨(bF a).toArray⟩):=by
 have a4:=Nz X;have hz:=oe;have M:=DL a X W;have N:=DJ _ M;have HA:=Qh W;clear W;have H:Hid (bF a=mS (pS (bO (bO a)) 2) 16):=rfl;generalize bF a=R at H|-;generalize a5:bO a=B at M N H;generalize a6:bO B=f at N H;have a8:=Qh a5;have a9:=Qh a6;clear a5 a6;have ax:=Qh M;have ay:=Qh N;have T:=Nz M.1;have e2:=Nz N.1;clear M N;have d:=QF w (Ns a) 59;have E:=d;unfold Blk at E;have b:Qz w.heap.size w (w.alloc (Qp (Ns a) 59)):=bR.alloc nR _;have a7:=trivial;go_enter Tryz.func87,Tryz.ntmps87;go_wp2_with (first
  |(refine ld t59 rfl rfl w.heap.size rfl E a4 ?_)
  |(go_at_call 143;have _:=a7;refine(xS a _ X HA.out).mono ?_;rw[show bO a=B from a8.out];rintro e w2 ⟨rfl,Z⟩;clear a7 E;have ad:=d.keep Z;have g2:w2.heap[w.heap.size]? =_:=ad;have D:=b.trans (Z.mono b.size);have ag:=ad.row (Ns B);have Q:=Qj D nR (Ns B);have g3:(w2.setRow w.heap.size (Ns B)).heap[w.heap.size]? =_:=ag)
  |(refine stN rfl rfl w.heap.size rfl rfl g2 T a4 ?_;clear g2)
  |(refine ld t59 rfl rfl w.heap.size rfl g3 T ?_)
  |(go_at_call 143;refine(xS B _ ax.out.1 ax.out.bd).mono ?_;rw[show bO B=f from a9.out];rintro e w4 ⟨rfl,ab⟩;clear g3;have ah:=ag.keep ab;have g4:w4.heap[w.heap.size]? =_:=ah;have az:=Q.trans (ab.mono Q.size);have an:=ah.row (Ns f);have S:=Qj az nR (Ns f))
  |(refine stN rfl rfl w.heap.size rfl rfl g4 e2 T ?_;clear g4))
 generalize w4.setRow w.heap.size (Ns f)=w5 at an S|-;clear ad D ag Q ah az d b Z ab;go_loopw [3] (λq wr=> ∃k:Nat,k<=2/\q=Qq Qe k/\Blk wr w.heap.size (Ns (pS f k)) 59/\Qz w.heap.size w wr) (λq _=>2-(QA q).toNat)
 case atStart=>exact⟨0,oo,rfl,an,S⟩
 case round=>
  clear an S;obtain⟨k,hk,rfl,d,b⟩:=hrel;by_cases bz:k<2
  .have i0:(k:Int)<2:=oo
   have p:=DI f ay.out k;have P:Hid (pS f (k+1)=nA (pS f k)):=rfl;generalize pS f k=m at d p P;have G:=Qh p;have em:=Nz p.1;have bk:=p.1;clear p;have l:=QF wr (Ns Qa) 59;have h:=d.alloc (Qp (Ns Qa) 59);have D:Qz w.heap.size w (wr.alloc (Qp (Ns Qa) 59)):=b.alloc b.size _;have hM:=d.lt;clear d;go_wp2;generalize wr.alloc (Qp (Ns Qa) 59)=w6 at l h D|-;generalize wr.heap.size=M0 at l hM|-;clear b;go_loopw [5,6] (λc q wr=> ∃j:Nat,j<=16/\q=Qq Qe j/\c=Qq Qe (lU m j)/\Blk wr M0 (Ns (fO m j)) 59/\Blk wr w.heap.size (Ns m) 59/\Qz w.heap.size w wr) (λ_ q _=>16-(QA q).toNat)
   case atStart=>exact⟨0,oo,rfl,rfl,l,h,D⟩
   case round=>
    clear l h D;obtain⟨j,hj,rfl,rfl,l,h,b⟩:=hrel;by_cases bh:j<16
    .have j0:(j:Int)<16:=oo
     have K:=h.cell j;rw[mu _ _ oo]at K;have ba:=kW m j;have a1:=l.cell j;rw[mu _ _ oo]at a1;have bs:=l.frozen j;have F:=G.out.2 j;have J:=Hl m G.out j;have u:Hid (lU m (j+1)=(m.getD j 0-iH j+lU m j)/65536):=rfl;have r:Hid (fO m (j+1)=(fO m j).set j ((m.getD j 0-iH j+lU m j)%65536)):=rfl;generalize fO m j=t at l ba a1 r;generalize m.getD j 0=x at K F u r;generalize lU m j=c at J u r|-;have g:=uC (w:=w) (i:=j) (v:=x-iH j+c-(x-iH j+c)/65536*65536) l oo b;have bq:(j=0/\iH j=65517)\/(j=15/\iH j=32767)\/(j≠0/\j≠15/\iH j=65535):=by
      unfold iH;split
      .left;omega
      .split
       .right;left;omega
       .right;right;omega
     have a3:∀y:Int,y-y/65536*65536=y%65536:=λy=>oo
     have O:=Qh a3;clear a3;obtain⟨x1,x2⟩:=F;obtain⟨c1,c2⟩:=J;rcases bq with ⟨bb,A⟩|⟨bd,A⟩|⟨bt,bx,A⟩
     .subst bb;rw[A]at g u r;clear A;go_wp2;go_roundw
      case rel=>
       refine⟨1,oo,gn,cH u.out.symm,?_,g.2.1 _ _ _ oo h,g.2.2⟩;rw[show fO m 1=_ from r.out,<-O.out];exact g.1
      case measure=>simp[QA]
     .subst bd;rw[A]at g u r;clear A;rw[show ((15:Nat):Int)=15 from rfl];go_wp2;go_roundw
      case rel=>
       refine⟨16,oo,gn,cH u.out.symm,?_,g.2.1 _ _ _ oo h,g.2.2⟩;rw[show fO m 16=_ from r.out,<-O.out];exact g.1
      case measure=>simp[QA]
     .rw[A]at g u r;clear A;have d1:((j:Int)==0)=false:=by rw[beq_eq_false_iff_ne];omega
      have d2:((j:Int)==15)=false:=by rw[beq_eq_false_iff_ne];omega
      go_wp2;go_roundw
      case rel=>
       refine⟨j+1,oo,gn,cH u.out.symm,?_,g.2.1 _ _ _ oo h,g.2.2⟩;rw[show fO m (j+1)=_ from r.out,<-O.out];exact g.1
      case measure=>simp[QA];omega
    .have ao:j=16:=oo
     subst ao;rw[show ((16:Nat):Int)=16 from rfl];have a2:=kW m 16;have J:=Hl m G.out 16;have C:Hid (nA m=if lU m 16=0 then fO m 16 else m):=rfl;generalize fO m 16=t at l a2 C;generalize lU m 16=c at J C|-;obtain⟨c1,c2⟩:=J;have et:=Nz a2;by_cases z:c=0
     .have db:(c==0)=true:=by rw[beq_iff_eq];exact z
      rw[if_pos z]at C;have HC:=Qh z;clear z;have g0:=l;have E:=h;unfold Blk at g0 E;go_wp2_with (first
       |(refine ld t59 rfl rfl M0 rfl g0 et ?_)
       |(refine stN rfl rfl w.heap.size rfl rfl E et em ?_))
      go_roundw
      case rel=>
       refine⟨k+1,oo,gn,?_,Qj b nR _⟩;rw[show pS f (k+1)=_ from P.out,show nA m=t from C.out];exact h.row _
      case measure=>simp[QA];omega
     .have db:(c==0)=false:=by rw[beq_eq_false_iff_ne];exact z
      rw[if_neg z]at C;have HC:=Qh z;clear z;go_wp2;go_roundw
      case rel=>
       refine⟨k+1,oo,gn,?_,b⟩;rw[show pS f (k+1)=_ from P.out,show nA m=m from C.out];exact h
      case measure=>simp[QA];omega
  .have bi:k=2:=oo
   subst bi;rw[show ((2:Nat):Int)=2 from rfl];have p:=DI f ay.out 2;generalize pS f 2=m at d p H;have G:=Qh p;have bk:=p.1;clear p;go_wp2;go_loopw [9,10] (λs q wr=> ∃j:Nat,j<=16/\q=Qq Qe j/\s=Qt ⟨(mS m j).toArray⟩/\Blk wr w.heap.size (Ns m) 59/\Qz w.heap.size w wr) (λ_ q _=>16-(QA q).toNat)
   case atStart=>exact⟨0,oo,rfl,rfl,d,b⟩
   case round=>
    clear d b;obtain⟨j,hj,rfl,rfl,d,b⟩:=hrel;by_cases bh:j<16
    .have j0:(j:Int)<16:=oo
     have K:=d.cell j;rw[mu _ _ oo]at K;have F:=G.out.2 j;have I:Hid (mS m (j+1)=mS m j++dj (m.getD j 0).toNat 2):=rfl;have hl:=uH m j;have ap:=cJ (m.getD j 0).toNat 2;generalize m.getD j 0=x at K F I ap;obtain⟨n,rfl⟩:=Int.eq_ofNat_of_zero_le F.1;rw[Int.toNat_natCast]at I ap;have bX:n<=65535:=oo
     clear F;generalize hL:dj n 2=L at I ap;have HL:=Qh hL;clear hL;generalize mS m j=o at hl I|-;go_wp2_with (go_at_call 75;refine(mN _ _ n 2 rfl rfl oo oo _).mono ?_;rw[show dj n 2=L from HL.out];rintro e w7 ⟨rfl,a0⟩);go_roundw
     case rel=>
      refine⟨j+1,oo,gn,?_,d.keep a0,b.trans (a0.mono b.size)⟩;rw[show mS m (j+1)=o++L from I.out];exact congrArg Qt (ByteArray.mk_append_mk o L)
     case measure=>simp[QA];omega
    .have ao:j=16:=oo
     subst ao;go_wp2;go_ret;exact⟨by rw[show R=_ from H.out];rfl,b⟩
def byt(s:ByteArray)(i:Nat):Int:=((s.data.toList.getD i 0).toNat:Int)
theorem zk(s:Qb)(i:Nat):0<=byt s i/\byt s i<=255:=by
 unfold byt;have:=(s.data.toList.getD i 0).toNat_lt;omega
theorem abJ(s:Qb)(i:Nat)(h:i<s.size):((s[i]).toNat:Int)=byt s i:=by
 unfold byt;have h2:i<s.data.toList.length:=by simpa using h
 simp[List.getD,List.getElem?_eq_getElem h2];rfl
theorem mM(s:Qb)(i:Int)(n:Nat)(h0:0<=i)(a:i.toNat=n)(h:n<s.size)(w:Qn):
  (Instr.index 9 (Qt s) (Qq Qe i)).run QG w=.ok (Qq Qg (byt s n)) w:=by
 have h2:s[n]? =some s[n]:=by rw[getElem?_pos s n h]
 rw[<-abJ s n h];simp[Instr.index,asIntOf,run_underlying Tryz.underlying9,h0,a,h2]
def jw(s:ByteArray):Nat->List Int
 |0=>Qa
 |k+1=>(jw s k).set k (byt s (2*k)+256*byt s (2*k+1))
theorem ku(s:Qb)(k:Nat):(jw s k).length=16:=by
 induction k with
 |zero=>rfl
 |succ k a=>rw[jw,QC,a]
def aG(s:ByteArray):List Int:=(jw s 16).set 15 ((jw s 16).getD 15 0%32768)
theorem GA(s:Qb)(k:Nat):∀i,0<=(jw s k).getD i 0/\(jw s k).getD i 0<=65535:=by
 induction k with
 |zero=>intro i;show 0<=(QB 16 (0:Int)).getD i 0/\(QB 16 (0:Int)).getD i 0<=65535;rw[pE];omega
 |succ k a=>
  intro i;rw[jw];by_cases e:k=i
  .subst e;by_cases c:k<16
   .rw[dF _ _ _ (by rw[ku];omega)];have b:=zk s (2*k);have h2:=zk s (2*k+1);omega
   .rw[QD (by rw[ku];omega)];exact a k
  .rw[jg _ _ _ _ e];exact a i
theorem A8(s:Qb):Fd_Norm (aG s):=⟨by unfold aG;rw[QC,ku],λi=>by
 unfold aG;by_cases e:15=i
 .subst e;rw[dF _ _ _ (by rw[ku];omega)];omega
 .rw[jg _ _ _ _ e];exact GA s 16 i⟩
theorem Fd_Norm.good{l:List Int}(h:Fd_Norm l):Qc l:=⟨h.1,λi=>by have:=h.2 i;omega⟩
theorem Hx(s:Qb)(w:Qn)(L:s.size=32):
  Rw 139 #[Qt s] w (Qx (Ns (aG s))):=by
 have O:=oe;have p:=A8 s;have j:=Nz p.1;clear p;have g:Hid (aG s=(jw s 16).set 15 ((jw s 16).getD 15 0%32768)):=rfl;generalize aG s=R at g j|-;have d:Blk ((w.alloc (Qp (Ns Qa) 59)).alloc (Qp (Ns Qa) 59)) w.heap.size (Ns Qa) 59:=Qk w _ _;have a:Blk ((w.alloc (Qp (Ns Qa) 59)).alloc (Qp (Ns Qa) 59)) (w.heap.size+1) (Ns Qa) 59:=Qm w _ _;have c:Qz w.heap.size w ((w.alloc (Qp (Ns Qa) 59)).alloc (Qp (Ns Qa) 59)):=(bR.alloc nR _).alloc ss _;go_enter Tryz.func139,Tryz.ntmps139;go_wp2;generalize (w.alloc (Qp (Ns Qa) 59)).alloc (Qp (Ns Qa) 59)=Q at d a c|-;go_loopw [4] (λq wr=> ∃k:Nat,k<=16/\q=Qq Qe k/\Blk wr (w.heap.size+1) (Ns (jw s k)) 59/\Blk wr w.heap.size (Ns Qa) 59/\Qz w.heap.size w wr) (λq _=>16-(QA q).toNat)
 case atStart=>exact⟨0,oo,rfl,a,d,c⟩
 case round=>
  clear d a c;obtain⟨k,J,rfl,a,d,c⟩:=hrel;by_cases K:k<16
  .have P:(k:Int)<16:=oo
   have n:=ku s k;have e:=a.cell k;rw[mu _ _ oo]at e;have C:=a.frozen k;have h:Hid (jw s (k+1)=(jw s k).set k (byt s (2*k)+256*byt s (2*k+1))):=rfl;generalize jw s k=t at a n e h;have F:2*k<s.size:=oo
   have G:2*k+1<s.size:=oo
   have H:(2*(k:Int)).toNat=2*k:=oo
   have I:(2*(k:Int)+1).toNat=2*k+1:=oo
   have D:=mM s (2*(k:Int)) (2*k) oo H F;have E:=mM s (2*(k:Int)+1) (2*k+1) oo I G;have r:=zk s (2*k);have u:=zk s (2*k+1);have b:=uC (w:=w) (i:=k) (v:=byt s (2*k)+256*byt s (2*k+1)) a oo c;generalize byt s (2*k)=l at D r b h;generalize byt s (2*k+1)=f at E u b h;obtain⟨ad,ag⟩:=r;obtain⟨ah,an⟩:=u;have S:Qe.wrap (2*(k:Int))=2*(k:Int):=by rw[Qf];omega
   have T:Qe.wrap (2*(k:Int)+1)=2*(k:Int)+1:=by rw[Qf];omega
   have W:Qe.wrap l=l:=by rw[Qf];omega
   have X:Qe.wrap f=f:=by rw[Qf];omega
   have Z:Qe.wrap (256*f)=256*f:=by rw[Qf];omega
   have ab:Qe.wrap (l+256*f)=l+256*f:=by rw[Qf];omega
   go_wp2_with fail;go_region
   all_goals
    go_wp2;go_roundw
    case rel=>
     refine⟨k+1,oo,gn,?_,b.2.1 _ _ _ oo d,b.2.2.drew⟩;rw[show jw s (k+1)=_ from h.out];exact b.1
    case measure=>simp[QA];omega
  .have z:k=16:=oo
   subst z;have n:=ku s 16;have e:=a.cell 15;rw[mu _ _ oo]at e;have C:=a.frozen 15;have m:=GA s 16 15;generalize jw s 16=t at a n e g m;generalize t.getD 15 0=x at e g m;obtain⟨M,N⟩:=m;have b:=uC (w:=w) (i:=15) (v:=x%32768) a oo c;rw[<-show R=_ from g.out]at b;have o:=b.2.1 _ _ _ oo d;have A:(wr.setCell ⟨w.heap.size+1,15,none⟩ (Qq Qe (x%32768))).heap[w.heap.size+1]? =_:=b.1;have B:(wr.setCell ⟨w.heap.size+1,15,none⟩ (Qq Qe (x%32768))).heap[w.heap.size]? =_:=o;have y:=Qh b;clear b;go_wp2_with (first
    |(refine ldN rfl rfl (w.heap.size+1) rfl A j ?_)
    |(refine stN rfl rfl w.heap.size rfl rfl B j rfl ?_))
   refine Qo (v:=Qx (Ns R)) ?_ rfl ⟨rfl,Qj y.out.2.2 nR _⟩;exact rr t59 rfl rfl (o.row _) j
theorem ZJ(a:List Int)(w:Qn)(g:a.length=16)(f:Qd 1125899906842624 a):
  Calls QG 88 #[Qx (Ns a)] w λe w'=> ∃b:Bool,e=.returned (.bool b)/\b=((((bF a).getD 0 0).toNat:Int)%2==1)/\Qz w.heap.size w w':=by
 have n:=Nz g;have j:(w.alloc (Qp (Ns a) 59)).heap[w.heap.size]? =_:=QF w (Ns a) 59;have d:Qz w.heap.size w (w.alloc (Qp (Ns a) 59)):=bR.alloc nR _;have i:=Qh f;clear f;have m:=iE a;have l:=mM ⟨(bF a).toArray⟩ 0 0 oo rfl (by show 0<(bF a).toArray.size;simp[m]);have h:=zk ⟨(bF a).toArray⟩ 0;have c:Hid (byt ⟨(bF a).toArray⟩ 0=(((bF a).getD 0 0).toNat:Int)):=rfl;generalize byt ⟨(bF a).toArray⟩ 0=x at l h c;obtain⟨p,q⟩:=h;go_enter Tryz.func88,Tryz.ntmps88;go_wp2_with (first
  |(refine ld t59 rfl rfl w.heap.size rfl j n ?_)
  |(go_at_call 87;refine mo (Cb a _ g i.out) λo k=>?_))
 go_ret;exact⟨_,rfl,by rw[<-show x=_ from c.out],d.trans (k.mono d.size)⟩
theorem Xj(a b:List Int)(w:Qn)(i:a.length=16)(g:Qd 1125899906842624 a)(j:b.length=16)(h:Qd 1125899906842624 b):
  Calls QG 146 #[Qx (Ns a),Qx (Ns b)] w λe w'=> ∃q:Bool,e=.returned (.bool q)/\(q=true↔bF a=bF b)/\Qz w.heap.size w w':=by
 have s:=Nz i;have t:=Nz j;have p:Blk ((w.alloc (Qp (Ns a) 59)).alloc (Qp (Ns b) 59)) w.heap.size (Ns a) 59:=Qk w _ _;have h2:Blk ((w.alloc (Qp (Ns a) 59)).alloc (Qp (Ns b) 59)) (w.heap.size+1) (Ns b) 59:=Qm w _ _;have f:Qz w.heap.size w ((w.alloc (Qp (Ns a) 59)).alloc (Qp (Ns b) 59)):=(bR.alloc nR _).alloc ss _;have c:=p;unfold Blk at c;have m:=Qh g;have n:=Qh h;clear g h;have l:=trivial;go_enter Tryz.func146,Tryz.ntmps146;go_wp2_with (first
  |(refine ld t59 rfl rfl w.heap.size rfl c s ?_)
  |(go_at_call 87;have _:=l;refine mo (Cb a _ i m.out) λu k=>?_;clear l c;have o:u.heap[w.heap.size+1]? =_:=h2.keep k;have d:=f.trans (k.mono f.size))
  |(refine ldN rfl rfl (w.heap.size+1) rfl o t ?_)
  |(go_at_call 87;refine mo (Cb b _ j n.out) λv r=>?_))
 go_ret;refine⟨_,rfl,?_,d.trans (r.mono d.size)⟩;simp
theorem PZ:∀n:Fin 256,bits BinOp.and Qe ((n.val:Nat):Int) 1=((n.val:Nat):Int)%2:=dk
theorem PY(y:Int)(h0:0<=y)(a:y<=255):bits BinOp.and Qe y 1=y%2:=by
 obtain⟨n,rfl⟩:=Int.eq_ofNat_of_zero_le h0;exact PZ ⟨n,oo⟩
theorem Fx(s:Qb)(i:Nat)(w:Qn)(g:i<8*s.size)(h:s.size<=1000000):
  Calls QG 83 #[Qt s,Qq Qe i] w λe w'=>e=.returned (Qq Qe (byt s (i/8)/2^(i%8)%2))/\w'=w:=by
 have c:i/8<s.size:=oo
 have d:=mM s ((i:Int)/8) (i/8) oo oo c;have a:=zk s (i/8);generalize byt s (i/8)=x at d a;obtain⟨b,f⟩:=a;have j:Qe.wrap x=x:=by rw[Qf];omega
 go_enter Tryz.func83,Tryz.ntmps83;go_wp2;go_ret;exact⟨rO (PY _ (Int.ediv_nonneg b (Int.le_of_lt (Int.pow_pos dd))) (Int.le_trans (Int.ediv_le_self _ b) f)),rfl⟩
end Go.Proofs.YtclpbaokadfhhaaGreatDoor
