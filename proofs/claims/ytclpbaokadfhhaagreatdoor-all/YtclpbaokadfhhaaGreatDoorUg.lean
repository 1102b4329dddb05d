import Derived.Test.YtclpbaokadfhhaaGreatDoorUf
import Derived.Test.YtclpbaokadfhhaaGreatDoorXh
set_option maxRecDepth 100000
set_option maxHeartbeats 2000000
open Go.Value renaming string->Qa,slice->Qc,tuple->Qd,bool->Qe
open Go renaming World->Qf,wpS_region->Qg
open Go.RowKit renaming Below->Qi
namespace Go.Proofs.YtclpbaokadfhhaaGreatDoor
open Go.RowKit
theorem r9(p:Qb)(s:Value)(a b c d e:Qb):(prt p s a b c d e).size=7:=rfl
theorem Af(x:Int):Hid (∀a:Qf,Calls Tryz.prog 128 #[Qe true,.int .i64 x] a λe w'=>e=.returned (Qd #[])/\w'=a):=λa=>wP x a
theorem p6{w:Qf}{b t:Nat}{p:Qb}{s:Value}{a c d e f:Qb}(h:Blk w b (prt p s a c d e f) t):w.cell? ⟨b,0,none⟩=some (Qa p)/\w.cell? ⟨b,1,none⟩=some s/\w.cell? ⟨b,2,none⟩=some (Qa a)/\w.cell? ⟨b,3,none⟩=some (Qa c)/\w.cell? ⟨b,4,none⟩=some (Qa d)/\w.cell? ⟨b,5,none⟩=some (Qa e)/\w.cell? ⟨b,6,none⟩=some (Qa f):=
 ⟨h.cell 0,h.cell 1,h.cell 2,h.cell 3,h.cell 4,h.cell 5,h.cell 6⟩
theorem aak(K:Nat->BitVec 64)(d SE f c a b:Qb)(g n:Nat)(w:Qf)(k:SE.size=32)(h2:a.size<=100000)(l:b.size=64)(j:Tab K w)
  (o:jM (aj K) SE.data.toList a.data.toList b.data.toList=true):
  Rw 65 #[.agg (prt d (Qc (some ⟨g,0,none⟩) n n) SE f c a b)] w (Qd #[]):=by
 have q:=Qh λB h=>by
  have:=La K SE a b B k h2 l h;rw[o]at this;exact this
 have p:=Af 6;have m:Blk (w.alloc (.cells (prt d (Qc (some ⟨g,0,none⟩) n n) SE f c a b) 84)) w.heap.size (prt d (Qc (some ⟨g,0,none⟩) n n) SE f c a b) 84:=Blk.new _ _ _;have i:Qi w.heap.size w (w.alloc (.cells (prt d (Qc (some ⟨g,0,none⟩) n n) SE f c a b) 84)):=bR.alloc nR _;obtain⟨r,s,t,u,v,x,y⟩:=p6 m;have A:=r9 d (Qc (some ⟨g,0,none⟩) n n) SE f c a b;generalize (prt d (Qc (some ⟨g,0,none⟩) n n) SE f c a b)=C at m i r s t u v x y A|-;replace j:=Qh (j.below i);clear o k h2 l;go_enter Tryz.func65,Tryz.ntmps65;go_wp2_with fail;refine mo (q.out _ j.out) λD z=>?_;go_wp2_with fail;refine(p.out _).mono ?_;rintro e E ⟨rfl,rfl⟩;go_wp2;go_end0
 exact⟨rfl,i.trans (z.mono i.size)⟩
theorem abW(K:Nat->BitVec 64)(l SE f d m o j q:Qb)(p n:Nat)(w:Qf)(B:f.size<=100000)(h2:d.size<=100000)(C:16<=d.size)(D:j.size<=1000)(E:Tab K w)
  (G:cG (cn K j) aT f d=true) (F:bQ (cn K j) aT (ev d)=q):
  Rw 67 #[.agg (prt l (Qc (some ⟨p,0,none⟩) n n) SE f d m o),Qa j] w (Qa q):=by
 have x:=Qh λg h=>Ei K j g D h
 have A:Hid (Rv 61 #[Qa (cn K j),Qa ⟨#[0,0,0,0,0,0,0,0,0,0,0,0]⟩,Qa f,Qa d] (Qd #[Qa q,Qe true])):=λg=>by
  have:=p8 (cn K j) aT f d g (tc K j) rfl B h2 C;rw[G,if_pos rfl,F]at this;exact this
 have I:=Af 3;have c:(λy=>Blk y w.heap.size (prt l (Qc (some ⟨p,0,none⟩) n n) SE f d m o) 84/\Tab K y/\Qi w.heap.size w y) (w.alloc (.cells (prt l (Qc (some ⟨p,0,none⟩) n n) SE f d m o) 84)):=⟨Blk.new _ _ _,E.below (bR.alloc nR _),bR.alloc nR _⟩;have z:Hid (∀a b:Qf,(λy=>Blk y w.heap.size (prt l (Qc (some ⟨p,0,none⟩) n n) SE f d m o) 84/\Tab K y/\Qi w.heap.size w y) a->Qi a.heap.size a b->(λy=>Blk y w.heap.size (prt l (Qc (some ⟨p,0,none⟩) n n) SE f d m o) 84/\Tab K y/\Qi w.heap.size w y) b):=λa b h k=>⟨h.1.keep k,h.2.1.below k,h.2.2.trans (k.mono h.2.2.size)⟩
 generalize cn K j=T at x A;have W:=r9 l (Qc (some ⟨p,0,none⟩) n n) SE f d m o;clear G F B h2 C D E;go_enter Tryz.func67,Tryz.ntmps67;go_wp2_with fail;generalize w.alloc (.cells (prt l (Qc (some ⟨p,0,none⟩) n n) SE f d m o) 84)=H at c|-;refine bu (S:=(λy=>Blk y w.heap.size (prt l (Qc (some ⟨p,0,none⟩) n n) SE f d m o) 84/\Tab K y/\Qi w.heap.size w y)) (ls:=[]) kr ?_;have u:(λy=>Blk y w.heap.size (prt l (Qc (some ⟨p,0,none⟩) n n) SE f d m o) 84/\Tab K y/\Qi w.heap.size w y) H.drew:=⟨c.1.drew,c.2.1,c.2.2.drew⟩;clear c;generalize H.drew=wd at u|-;have c:=u;clear u;refine ae 0 8 c ?_;refine ae 2 10 c ?_;simp only[qQ];refine ac 3 11 (v:=Qa f) c ?_ ?_
 ·(intro g r;obtain⟨L,M,N,O,P,Q,R⟩:=p6 r.1;clear r;go_simp;try (with_reducible rfl))
 refine ae 4 12 c ?_;simp only[qQ];refine ac 5 13 (v:=Qa d) c ?_ ?_
 ·(intro g r;obtain⟨L,M,N,O,P,Q,R⟩:=p6 r.1;clear r;go_simp;try (with_reducible rfl))
 simp only[qQ];refine ip (i:=1) kr rfl (λt s=>?_);go_simp;go_wp2_with (go_at_call 55;refine mo (x.out _ c.2.1) λX kk=>?_);replace c:=z.out _ _ c kk;refine s.out _ _ c ?_;try simp only[qQ]
 clear s t kk;refine ip (i:=6) kr rfl (λt s=>?_);go_simp;go_wp2_with (go_at_call 61;refine gv A λZ kk=>?_);replace c:=z.out _ _ c kk;refine s.out _ _ c ?_;try simp only[qQ]
 clear s t kk;refine ac 7 7 (v:=Qd #[Qa q,Qe true]) c ?_ ?_
 .exact λg _=>rfl
 refine ac 8 15 (v:=Qa q) c ?_ ?_
 .exact λg _=>rfl
 refine ac 9 16 (v:=Qe true) c ?_ ?_
 .exact λg _=>rfl
 try simp only[qQ]
 refine ac 10 5 (v:=Qa q) c ?_ ?_
 .exact λg _=>rfl
 refine ac 11 6 (v:=Qe true) c ?_ ?_
 .exact λg _=>rfl
 try simp only[qQ]
 refine aC ?_;go_wp2_with fail;refine(I.out _).mono ?_;rintro e w5 ⟨rfl,rfl⟩;have J:=c.2.2;clear c;go_wp2;go_ret;exact⟨rfl,J⟩
theorem aah(K:Nat->BitVec 64)(d SE r o p q f Q:Qb)(c:List ByteArray)(l n j t:Nat)(w:Qf)(Z:f.size=32)(X:d.size=32)(hn:n=c.length)(ay:n<=8)(C:∀i,i<n->(aM c i).size=48)(hj:j<n)(T:Blk w l (Ss c) t)(hK:Tab K w)(hu:nV f d=true)
  (hr:cG (eJ K (cf f d) d (aS f)) aT ⟨#[]⟩ (aM c j)=true) (ag:∀i,i<j->cG (eJ K (cf f d) d (aS f)) aT ⟨#[]⟩ (aM c i)=false)
  (ad:bQ (eJ K (cf f d) d (aS f)) aT (ev (aM c j))=Q):
  Rw 66 #[.agg (prt d (Qc (some ⟨l,0,none⟩) n n) SE r o p q),Qa f] w (Qd #[Qa Q,.int .i64 (j:Int)]):=by
 subst hn;have P:Hid (Rv 29 #[Qa f,Qa d] (Qd #[Qa (cf f d),Qe true])):=λm=>by
  have:=zl f d m Z X;rw[show (!(ix f.data.toList d.data.toList==aq 32))=true from hu]at this;exact this
 have O:Hid (Rv 25 #[Qa f] (Qa (aS f))):=λm=>Dc f m Z
 have z:Hid (∀m:Qf,Tab K m->Rw 118 #[Qa (cf f d),Qa d,Qa (aS f)] m (Qa (eJ K (cf f d) d (aS f)))):=λm h=>Cv K _ _ _ m (ub _ _) X (nN _) h
 have E:Hid (∀(m:Qf) (i:Nat),i<j->Rw 61 #[Qa (eJ K (cf f d) d (aS f)),Qa ⟨#[0,0,0,0,0,0,0,0,0,0,0,0]⟩,Qa ⟨#[]⟩,Qa (aM c i)] m (Qd #[Qa ⟨#[]⟩,Qe false])):=λm i hi=>by
  have:=p8 (eJ K (cf f d) d (aS f)) aT ⟨#[]⟩ (aM c i) m (rU K _ _ _) rfl dd (by rw[C i oo];omega) (by rw[C i oo];omega);rw[ag i hi,if_neg dd]at this;exact this
 have F:Hid (Rv 61 #[Qa (eJ K (cf f d) d (aS f)),Qa ⟨#[0,0,0,0,0,0,0,0,0,0,0,0]⟩,Qa ⟨#[]⟩,Qa (aM c j)] (Qd #[Qa Q,Qe true])):=λm=>by
  have:=p8 (eJ K (cf f d) d (aS f)) aT ⟨#[]⟩ (aM c j) m (rU K _ _ _) rfl dd (by rw[C j hj];omega) (by rw[C j hj];omega);rw[hr,if_pos rfl,ad]at this;exact this
 have HI:=Af 2;have az:=T.lt;have g:(λy=>Blk y w.heap.size (prt d (Qc (some ⟨l,0,none⟩) c.length c.length) SE r o p q) 84/\Tab K y/\Qi w.heap.size w y/\Blk y l (Ss c) t) (w.alloc (.cells (prt d (Qc (some ⟨l,0,none⟩) c.length c.length) SE r o p q) 84)):=⟨Blk.new _ _ _,hK.below (bR.alloc nR _),bR.alloc nR _,T.alloc _⟩;have x:Hid (∀a b:Qf,(λy=>Blk y w.heap.size (prt d (Qc (some ⟨l,0,none⟩) c.length c.length) SE r o p q) 84/\Tab K y/\Qi w.heap.size w y/\Blk y l (Ss c) t) a->Qi a.heap.size a b->(λy=>Blk y w.heap.size (prt d (Qc (some ⟨l,0,none⟩) c.length c.length) SE r o p q) 84/\Tab K y/\Qi w.heap.size w y/\Blk y l (Ss c) t) b):=λa b h k=>⟨h.1.keep k,h.2.1.below k,h.2.2.1.trans (k.mono h.2.2.1.size),h.2.2.2.keep k⟩
 generalize eJ K (cf f d) d (aS f)=KY at z E F;generalize cf f d=AG at P z;generalize aS f=PU at O z;have sP:=r9 d (Qc (some ⟨l,0,none⟩) c.length c.length) SE r o p q;clear hr ag ad Z X C hu hK T;obtain⟨G,H,I,J,L,M,N⟩:=p6 g.1;go_enter Tryz.func66,Tryz.ntmps66;go_wp2_with fail;clear G H I J L M N;generalize w.alloc (.cells (prt d (Qc (some ⟨l,0,none⟩) c.length c.length) SE r o p q) 84)=wa at g|-;refine gv P λw1 k1=>?_
 replace g:=x.out _ _ g k1;clear k1 P;go_wp2_with fail;refine(HI.out _).mono ?_;rintro e ah ⟨rfl,rfl⟩;go_wp2_with fail;refine bu (S:=(λy=>Blk y w.heap.size (prt d (Qc (some ⟨l,0,none⟩) c.length c.length) SE r o p q) 84/\Tab K y/\Qi w.heap.size w y/\Blk y l (Ss c) t)) (ls:=[]) kr ?_;have W:(λy=>Blk y w.heap.size (prt d (Qc (some ⟨l,0,none⟩) c.length c.length) SE r o p q) 84/\Tab K y/\Qi w.heap.size w y/\Blk y l (Ss c) t) ah.drew:=⟨g.1.drew,g.2.1,g.2.2.1.drew,g.2.2.2.drew⟩;clear g;generalize ah.drew=wd at W|-;have g:=W;clear W;refine ae 0 22 g ?_;refine ae 1 23 g ?_;simp only[qQ];refine ac 2 24 (v:=Qa d) g ?_ ?_
 ·(intro m ab;obtain⟨G,H,I,J,L,M,N⟩:=p6 ab.1;clear ab;go_simp;try (with_reducible rfl))
 refine ae 3 25 g ?_;simp only[qQ];refine ip (i:=4) kr rfl (λR B=>?_);go_simp;go_wp2_with (go_at_call 25;refine gv O λw3 kk=>?_);replace g:=x.out _ _ g kk;refine B.out _ _ g ?_;try simp only[qQ]
 clear B R kk;refine ip (i:=5) kr rfl (λR B=>?_);go_simp;go_wp2_with (go_at_call 118;refine mo (z.out _ g.2.1) λw4 kk=>?_);replace g:=x.out _ _ g kk;refine B.out _ _ g ?_;try simp only[qQ]
 clear B R kk;refine ac 6 8 (v:=Qa KY) g ?_ ?_
 .exact λm _=>rfl
 try simp only[qQ]
 refine aC ?_;clear O z HI;obtain⟨G,H,I,J,L,M,N⟩:=p6 g.1;go_wp2_with fail;clear G H I J L M N;replace g:=Qh g;go_loopw [31] (λi wr=> ∃k:Nat,i=.int .i64 k/\k<=j/\Hid ((λy=>Blk y w.heap.size (prt d (Qc (some ⟨l,0,none⟩) c.length c.length) SE r o p q) 84/\Tab K y/\Qi w.heap.size w y/\Blk y l (Ss c) t) wr)) (λi _=>j-(intOf i).toNat)
 case atStart=>exact⟨0,rfl,oo,g⟩
 case round=>
  clear g;obtain⟨k,rfl,hk,A⟩:=hrel;have d1:(k:Int)<(c.length:Int):=oo
  have u:=A.out.2.2.2.cell k;rw[xw _ _ oo]at u;replace u:wr.cell? ⟨l,k,none⟩=some (Qa (aM c k)):=u;by_cases ax:k<j
  .have s:=Qh (E.out wr k ax);clear E F;generalize aM c k=SH at u s;go_wp2_with fail;refine s.out.mono ?_;rintro e w5 ⟨rfl,D⟩;have ao:=Qh (x.out _ _ A.out D);clear A D u s;go_wp2_with fail;go_roundw
   case rel=>exact⟨k+1,gn,oo,ao⟩
   case measure=>simp[intOf];omega
  .have ap:k=j:=oo
   subst ap;have s:=Qh (F.out wr);clear E F;generalize aM c k=SH at u s;go_wp2_with fail;refine s.out.mono ?_;rintro e w5 ⟨rfl,D⟩;have an:=(x.out _ _ A.out D).2.2.1;clear A D u s x;go_wp2;go_ret2;exact⟨rfl,an⟩
theorem aap(s:Qb)(w:Qf)(d:s.size<=1000000):
  Rw 68 #[Qa s] w (Qa s):=by
 have a:=Qr λc=>Tryz.stringslite_Clone s c oo
 go_enter Tryz.func68,Tryz.ntmps68;go_wp2_with fail;refine gv a λe b=>?_
 go_wp2;go_ret;exact⟨rfl,b⟩
theorem abV(c d:Addr)(w:Qf):
  CallsD Tryz.prog 62 #[.pointer (some c),.pointer (some d)] .returning w λe f w'=>e=.returned (Qd #[])/\f=.returning/\w'=w:=by
 refine callsD_of_wpS Tryz.func62 rfl λa g b=>?_
 apply wpS_seq
 apply Qg
 simp[wpOpsS,go_sem,recoverD,b,Tryz.ntmps62,Exit.thenS];apply wpS_seq
 apply Qg
 simp[wpOpsS,go_sem,Exit.thenS];refine wpS_cond (t:=false) (by simp[Act.eval,Array.replicate]) ?_;simp only[Bool.false_eq_true,if_false];refine wpS_of_wp (wp_skip ?_);cases a
 simp_all [bodyPostS,results,Tryz.results62]
theorem Tryz.info34:(Tryz.prog.info? 34).map (·.size)=some 3:=kr
theorem t34:Ty 34 3:=⟨_,Tryz.underlying34,rfl,Tryz.info34⟩
def none34:Array Value:=#[Qa ⟨#[]⟩,Qa ⟨#[]⟩,.int .i64 0]
theorem DR(w:Qf):Sem.run Tryz.prog (zeroValue 34) w=.ok (.agg none34) w:=kr
end Go.Proofs.YtclpbaokadfhhaaGreatDoor
