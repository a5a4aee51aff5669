import Derived.Test.YtabgbmfcbobamaaGreatDoorJ29
set_option maxRecDepth 100000
set_option maxHeartbeats 8000000
namespace Go.Proofs.YtabgbmfcbobamaaGreatDoor
open Go.RowKit Tryz
theorem ja {x:ByteArray}:(x.toList==[])=decide (x.size=0):=by
 rw[ByteArray.toList_eq];cases h:x.data.toList with
 |nil=>
  have b:x.size=0:=by have:x.data.toList.length=0:=by rw[h];rfl
                      simpa using this
  simp[b]
 |cons a l=>
  have b:x.size≠0:=by have:x.data.toList.length=l.length+1:=by rw[h];rfl
                      simp at this;omega
  simp[b]
def shV (k:Int):Value:=.agg #[.bool (xQ k),.bool (k==1),.bool (uQ k),.bool (fR k),.bool (k==1||k==2||k==3||k==4)]
theorem KP (k:Int) (w:World):Calls prog 38 #[.int .i64 k] w fun e d=>e=.returned (.bool (decide (1<=k/\k<=6)))/\Below w.heap.size w d:=by
 by_cases a:1<=k
 ·by_cases c:k<=6
  ·rw[Zb (show 1<=k/\k<=6 from⟨a,c⟩)];have b:k ≥ 1:=a;go_enter func38,ntmps38;go_wp2;go_ret;exact⟨rfl,Below.refl _ _⟩
  ·rw[Bc (show ¬(1<=k/\k<=6) from fun h=>c h.2)];have b:k ≥ 1:=a;go_enter func38,ntmps38;go_wp2;go_ret;exact⟨rfl,Below.refl _ _⟩
 ·rw[Bc (show ¬(1<=k/\k<=6) from fun h=>a h.1)];have b:¬k ≥ 1:=a;go_enter func38,ntmps38;go_wp2;go_ret;exact⟨rfl,Below.refl _ _⟩
def aFw (r:vI) (a:Option Addr) (c:Nat) (w:World):Prop:=
 Calls prog 39 #[shV r.kind,.agg #[.int .i64 r.kind,.string r.n9,.string r.metric,.int .i64 r.num,.slice a r.smps.length c]] w fun e d=>∃b,e=.returned (.bool b)/\(b=true ↔ PF r)/\Below w.heap.size w d
theorem mw (t s m n c:Bool) (k l:Int) (j i:ByteArray) (z:Nat) (a:Option Addr) (o:Nat) (w:World):
 Calls prog 39 #[.agg #[.bool t,.bool s,.bool m,.bool n,.bool c],.agg #[.int .i64 k,.string j,.string i,.int .i64 l,.slice a z o]] w fun e v=>e=.returned (.bool ((t||decide (j.size=0)) &&(s||decide (z=0)) &&(m||decide (i.size=0)) &&(n||decide (l=0))))/\Below w.heap.size w v:=by
 have d:=ja (x:=j);have f:=ja (x:=i);have y:j.toList.isEmpty=decide (j.size=0):=by rw[<-d];simp
 have B:i.toList.isEmpty=decide (i.size=0):=by rw[<-f];simp
 have g:((z:Int)==0)=decide (z=0):=by rw[Sb];simp
 have A:decide ((z:Int)=0)=decide (z=0):=by rw[Sb];simp
 have h:(l==0)=decide (l=0):=by rw[Sb];simp
 generalize decide (j.size=0)=p at *;generalize decide (z=0)=q at *;generalize decide (i.size=0)=r at *;generalize decide (l=0)=u at *;have C:∀t b:Bool,(t=true\/t=false/\b=true)\/t=false/\b=false:=by decide
 rcases C t p with(rfl|⟨rfl,rfl⟩)|⟨rfl,rfl⟩
 rotate_right
 ·go_enter func39,ntmps39;go_wp2;go_ret;exact⟨rfl,nA (cA _ _) (cA _ _)⟩
 all_goals
  rcases C s q with(rfl|⟨rfl,rfl⟩)|⟨rfl,rfl⟩
  rotate_right
  ·go_enter func39,ntmps39;go_wp2;go_ret;exact⟨rfl,nA (cA _ _) (cA _ _)⟩
 all_goals
  rcases C m r with(rfl|⟨rfl,rfl⟩)|⟨rfl,rfl⟩
  rotate_right
  ·go_enter func39,ntmps39;go_wp2;go_ret;exact⟨rfl,nA (cA _ _) (cA _ _)⟩
 all_goals rcases C n u with(rfl|⟨rfl,rfl⟩)|⟨rfl,rfl⟩
 all_goals go_enter func39,ntmps39;go_wp2;go_ret;exact⟨rfl,nA (cA _ _) (cA _ _)⟩
theorem ui (r:vI) (a:Option Addr) (b:Nat) (w:World) (_hk:1<=r.kind/\r.kind<=6):aFw r a b w:=
 (mw (xQ r.kind) (r.kind==1) (uQ r.kind) (fR r.kind) _ r.kind r.num r.n9 r.metric r.smps.length a b w).mono fun e c q=>⟨_,q.1,by
  unfold PF;cases xQ r.kind<;>cases uQ r.kind<;>cases fR r.kind<;>by_cases h:r.kind=1<;>simp[h,and_assoc,and_comm,and_left_comm],q.2⟩
def uh (x:mA):List Value:=[.string x.name,.string x.value]
theorem aAq (w:World):PredBelow prog 91 #[] (fun x=>.agg (uh x).toArray) (fun x:mA=>decide ((x.name.size:Int) > 255)) w:=fun W x a=>by
 show Calls prog 91 #[.agg #[.string x.name,.string x.value]] W _;go_enter func91,ntmps91;go_wp2;go_ret;exact⟨rfl,a.alloc a.size _⟩
theorem np (a:Option Addr) (c:Nat) (d:Value) (w:World):Calls prog 131 #[.slice a 0 c,d] w fun e f=>e=.returned (.int .i64 (-1))/\Below w.heap.size w f:=by
 go_enter func131,ntmps131;go_wp2;go_loopw [5,8] (fun _ i wr=>i=.int .i64 0/\Below w.heap.size w wr) (fun _ _ _=>0)
 case atStart=>exact⟨rfl,Below.refl _ _⟩
 case round=>
  obtain⟨rfl,b⟩:=hrel;go_wp2;go_ret;exact⟨rfl,b⟩
theorem tp (a:Option Addr) (c:Nat) (d:Value) (w:World):Calls prog 90 #[.slice a 0 c,d] w fun e f=>e=.returned (.bool false)/\Below w.heap.size w f:=by
 have h:Hid (∀W,Calls prog 131 #[.slice a 0 c,d] W fun e f=>e=.returned (.int .i64 (-1))/\Below W.heap.size W f):=fun W=>np a c d W;go_enter func90,ntmps90;go_wp2_with fail;refine(h.out _).mono ?_;rintro e i ⟨rfl,b⟩;have g:=bA b;clear b;go_wp2;go_ret;exact⟨rfl,g.out⟩
theorem tk (a:Option Addr) (c:Nat) (g:List mA) (w:World) (p:sC w a g) (r:g.length<=2000000):
 Calls prog 90 #[.slice a g.length c,.func (.func 91) #[] #[]] w fun e q=>e=.returned (.bool (g.any fun x=>decide ((x.name.size:Int) > 255)))/\Below w.heap.size w q:=by
 rcases p with rfl|⟨b,o,rfl,k,h⟩
 ·exact tp a c _ w
 ·have n:∀args w,(callFunc 91 args).run prog w=.ok (.enter 91 args) w:=enters_of func91 (by kernel_rfl) rfl;haveI:=aAl
  have d:=AnyQ.slices_ContainsFunc contL 2 isAgg156 sizeOf156 uh (fun _=>rfl) (fun x:mA=>decide ((x.name.size:Int) > 255)) 91 #[] n b o g.length c g w (aAq w) (Ka _) (by omega) k (fun j m i v f=>by
   have l:=h j m;have e:g[j]! = g[j]:=getElem!_pos g j m;rw[e]at f;match i,f with
   |0,f=>simp[uh]at f;rw[<-f];exact l.1
   |1,f=>simp[uh]at f;rw[<-f];exact l.2
   |i+2,f=>simp[uh]at f)
  change Calls prog 90 _ _ _ at d;rw[Wb]at d;exact d
theorem MZ (r:vI) (a:Option Addr) (y:Nat) (w:World) (s:sE w a r.smps) (Y:r.smps.length<=2000000) (g:∀i (h:i<r.smps.length),r.smps[i].labs.length<=2000000) (Z:r.n9.size<=1000000000) (B:Bool) (z:B=true ↔ uU r):
 Calls prog 40 #[.agg #[.int .i64 r.kind,.string r.n9,.string r.metric,.int .i64 r.num,.slice a r.smps.length y]] w fun e C=>e=.returned (.bool B)/\Below w.heap.size w C:=by
 have f:Hid (¬uU r->B=false):=fun h=>by
  cases B with
  |false=>rfl
  |true=>exact absurd (z.1 rfl) h
 have p:Hid (uU r->B=true):=fun h=>z.2 h;clear z;by_cases R:(r.n9.size:Int) > 255
 ·have E:Hid (¬uU r):=fun h=>by have:=h.1;omega
  clear s g;go_enter func40,ntmps40;go_wp2;go_ret;exact⟨jA (f.out E.out).symm,cA _ _⟩
 by_cases S:(r.smps.length:Int) > 500
 ·have E:Hid (¬uU r):=fun h=>by have:=h.2.1;omega
  clear s g;go_enter func40,ntmps40;go_wp2;go_ret;exact⟨jA (f.out E.out).symm,cA _ _⟩
 have I:Hid (sE w a r.smps):=s;have v:=bA g;clear s g;go_enter func40,ntmps40;go_wp2;go_loopw [4,18] (fun _ i wr=>∃k:Nat,k<=r.smps.length/\i=.int .i64 k/\Hid (∀j (h:j<r.smps.length),j<k->aDv r.smps[j])/\Below w.heap.size w wr) (fun _ i _=>r.smps.length-(intOf i).toNat)
 case atStart=>exact⟨0,La _,rfl,fun j _ h=>absurd h (by omega),cA _ _⟩
 case round=>
  obtain⟨k,X,rfl,m,c⟩:=hrel;by_cases l:k<r.smps.length
  ·obtain⟨b,o,F,H,rfl,U,Q,J,t⟩:=(I.out.later c).at l;have A:=v.out k l;have n:Hid (∀W,Below wr.heap.size wr W->Calls prog 90 #[.slice F r.smps[k].labs.length H,.func (.func 91) #[] #[]] W fun e C=>e=.returned (.bool (r.smps[k].labs.any fun x=>decide ((x.name.size:Int) > 255)))/\Below W.heap.size W C):=fun W L=>tk F H _ W (t.later L) A;have M:¬b=wr.heap.size:=by omega
   by_cases T:(r.smps[k].labs.length:Int) > 255
   ·have E:Hid (¬uU r):=fun h=>by have:=(h.2.2 k l).1;omega
    clear n t;go_wp2;go_ret;exact⟨jA (f.out E.out).symm,nA c (cA _ _)⟩
   cases hany:(r.smps[k].labs.any fun x=>decide ((x.name.size:Int) > 255)) with
   |true=>
    have E:Hid (¬uU r):=fun h=>by
     obtain⟨x,P,N⟩:=Tf.1 hany;obtain⟨i,q,rfl⟩:=List.mem_iff_getElem.1 P;have:=(h.2.2 k l).2 i q;have O:=Fe N;omega
    rw[hany]at n;clear t hany;go_wp2_with fail;refine(n.out _ (cA _ _)).mono ?_;rintro e D ⟨rfl,d⟩;have u:Hid (Below w.heap.size w D):=nA (nA c (cA _ _)) d;clear d;go_wp2;go_ret;exact⟨jA (f.out E.out).symm,u.out⟩
   |false=>
    have E:Hid (∀j (h:j<r.smps.length),j<k+1->aDv r.smps[j]):=fun j h V=>by
     rcases Rc j k with G|G
     ·exact m.out j h G
     ·obtain rfl:j=k:=by omega
      refine⟨by omega,fun i q=>?_⟩;have K:=List.any_eq_false.1 hany r.smps[j].labs[i] (Xa q);simp at K;omega
    rw[hany]at n;clear t hany;go_wp2_with fail;refine(n.out _ (cA _ _)).mono ?_;rintro e D ⟨rfl,d⟩;have u:Hid (Below w.heap.size w D):=nA (nA c (cA _ _)) d;clear d;go_wp2;exact⟨⟨k+1,by omega,by go_num,E.out,u.out⟩,by simp[intOf];omega⟩
  ·have E:Hid (uU r):=⟨by omega,by omega,fun i q=>m.out i q (by omega)⟩
   go_wp2;go_ret;exact⟨jA (p.out E.out).symm,c⟩
theorem VU (r:vI) (a:Option Addr) (q:Nat) (w:World) (u:sE w a r.smps) (Y:yF r<=1048576):
 Calls prog 41 #[.agg #[.int .i64 r.kind,.string r.n9,.string r.metric,.int .i64 r.num,.slice a r.smps.length q]] w fun e P=>e=.returned (.int .i64 ((r.n9.size+r.metric.size+vJ r.smps:Nat):Int))/\Below w.heap.size w P:=by
 have L:yF r=r.n9.size+r.metric.size+r.smps.length+eC r.smps:=rfl;have O:=aCh r.smps;have y:Hid (sE w a r.smps):=u;clear u;go_enter func41,ntmps41;go_wp2;go_loopw [3,5,7,18,25] (fun z _ _ i _ wr=>∃k:Nat,k<=r.smps.length/\i=.int .i64 k/\z=.int .i64 ((r.n9.size+r.metric.size+vJ (r.smps.take k):Nat):Int)/\Below w.heap.size w wr) (fun _ _ _ i _ _=>r.smps.length-(intOf i).toNat)
 case atStart=>exact⟨0,La _,rfl,by simp[vJ],cA _ _⟩
 case round=>
  obtain⟨k,V,rfl,rfl,d⟩:=hrel;by_cases f:k<r.smps.length
  ·obtain⟨b,o,C,q1,rfl,U,R,E,v⟩:=(y.out.later d).at f;have p:=RF r.smps k f;have t:=yj r.smps k f;have M:vJ (r.smps.take (k+1))<=vJ r.smps:=by
    have e:=qW (r.smps.take (k+1)) (r.smps.drop (k+1));rw[Ya]at e;omega
   have H:=qU r.smps k f;have G:kG r.smps[k]=r.smps[k].labs.length+wB r.smps[k].labs:=rfl;have K:¬b=wr.heap.size:=by omega
   have A:Hid (∀W,Below wr.heap.size wr W->sC W C r.smps[k].labs):=fun W h=>v.later h;have n:Hid (vJ (r.smps.take (k+1))=vJ (r.smps.take k)+wB r.smps[k].labs):=p;clear v p t;rename World=>x;generalize r.smps[k].labs=l at *;generalize vJ (r.smps.take k)=B at *;generalize r.smps[k].bits=Q at *;go_wp2;go_loopw [3,7,25] (fun z _ j wr=>∃m:Nat,m<=l.length/\j=.int .i64 m/\z=.int .i64 ((r.n9.size+r.metric.size+B+wB (l.take m):Nat):Int)/\Below x.heap.size x wr) (fun _ _ j _=>l.length-(intOf j).toNat)
   case atStart=>exact⟨0,La _,rfl,by simp[wB],cA _ _⟩
   case round=>
    obtain⟨m,X,rfl,rfl,c⟩:=hrel;by_cases g:m<l.length
    ·obtain⟨D,Z,rfl,F,S,T⟩:=(A.out _ c).at g;have s:=jL l m g;have I:=yJ l (m+1);have J:¬D=wr.heap.size:=by omega
     go_wp2;refine⟨⟨m+1,by omega,by go_num,?_,nA c (cA _ _)⟩,by simp[intOf];omega⟩;refine Fd (Value.int .i64) ?_;have N:=n.out;rw[s];unfold wrap64;omega
    ·have e:l.take m=l:=Ua (by omega);rw[e];go_wp2;refine⟨⟨k+1,by omega,by go_num,?_,nA d c⟩,by simp[intOf];omega⟩;refine Fd (Value.int .i64) ?_;rw[n.out];omega
  ·have e:r.smps.take k=r.smps:=Ua (by omega);rw[e];go_wp2;go_ret;exact⟨rfl,d⟩
def AX (a:List lA):List Value:=a.flatMap fun x=>[.string x.s,.int .i64 x.n]
theorem TH (a b:List lA):AX (a++b)=AX a++AX b:=by simp[AX]
theorem iW (r:Rd):nF r 0=([],r):=rfl
def aCs (B:Nat) (r:Rd) (w:World) (e:Ending) (a:World):Prop:=
 ((cM r).2.r9=false/\∃M b d c f,e=.returned (.agg #[.string (cM r).1.name,.int .i64 (cM r).1.l9,.slice b (cM r).1.m9.length d,.slice c (cM r).1.s9.length f])/\w.heap.size<=M/\dC a w.heap.size b (cM r).1.m9/\(∀g o,b=some ⟨g,o,none⟩->g<M)/\dC a M c (cM r).1.s9/\M<=a.heap.size/\RT a B (cM r).2/\dB B w a)\/
 ((cM r).2.r9=true/\e=.panicked aM/\dB B w a)
theorem vv (B:Nat) (r:Rd) (w:World) (b:RT w B r) (d:r.rest.size<=1000000000):(zA 4 r).1<4294967296/\Calls prog 59 #[.pointer (some ⟨B,0,none⟩),.int .i64 4] w fun e a=>(e=.returned (.int .i64 ((zA 4 r).1:Nat))/\(zA 4 r).2.r9=false/\RT a B (zA 4 r).2/\dB B w a)\/(e=.panicked aM/\(zA 4 r).2.r9=true/\dB B w a):=by
 have h:=pI B r 4 w b (by omega) d;have c:(zA 4 r).1<4294967296:=nL 4 r;rw[kD (by omega)]at h;exact⟨c,h⟩
theorem ae {B k:Nat} {c:Rd} (p:c.rest.size<=1000000000) (i:(nF c k).2.r9=false):∃(n:ByteArray) (l:Int) (m d:Rd),Hid (∀W,RT W B (nF c k).2->Calls prog 60 #[.pointer (some ⟨B,0,none⟩),.int .i64 2] W fun e a=>(e=.returned (.string n)/\RT a B m/\dB B W a)\/(e=.panicked aM/\d.r9=true/\dB B W a))/\Hid (∀W,RT W B m->Calls prog 59 #[.pointer (some ⟨B,0,none⟩),.int .i64 8] W fun e a=>(e=.returned (.int .i64 l)/\d.r9=false/\RT a B d/\dB B W a)\/(e=.panicked aM/\d.r9=true/\dB B W a))/\Hid (AX (nF c (k+1)).1=AX (nF c k).1++[.string n,.int .i64 l])/\Hid ((nF c (k+1)).2=d)/\10*k<=1000000000:=by
 have b:=Ra (gQ c k) p;have j:=Ra (yG 2 (nF c k).2).2 b;refine⟨(oA 2 (nF c k).2).1,_,_,_,fun W h=>(cT B _ 2 W h (by omega) b).mono ?_,fun W h=>pI B _ 8 W h (by omega) j,?_,?_,by have:=pj i;omega⟩
 ·rintro e a (⟨f,-,g⟩|⟨f,g,o⟩)
  ·exact Ca ⟨f,g⟩
  ·exact Ja ⟨f,bD (k:=8) g,o⟩
 ·show _=_;rw[DZ,TH,jy];rfl
 ·show _=_;rw[DZ,BP]
theorem ci (B:Nat) (r:Rd) (w:World) (hB:RT w B r) (hs:r.rest.size<=1000000000):
 Calls prog 97 #[.pointer (some ⟨B,0,none⟩)] w fun e w'=>aCs B r w e w':=by
 have m:B<w.heap.size:=by obtain⟨t,h⟩:=hB;exact aA h
 have G:Hid (TG w (w.alloc (.cells #[.string ⟨#[]⟩,.int .i64 0,.slice none 0 0,.slice none 0 0] 100)) B w.heap.size #[.string ⟨#[]⟩,.int .i64 0,.slice none 0 0,.slice none 0 0] 100 r):=⟨eA.new _ _ _,dB.of (cA _ _),hB.laterD (cA _ _)⟩
 have O:=bA (fun W h=>cT B r 1 W h (by omega) hs);have h1:=Ra (yG 1 r).2 hs;unfold aCs cM cq VX MV VW RC NY;clear hB hs;generalize oA 1 r=A at *;obtain⟨nm,r1⟩:=A;dsimp only at h1 O |-
 have P:=bA (fun W h=>pI B r1 8 W h (by omega) h1);have h2:=Ra (vM 8 r1) h1;have S2:=bA (fun(h:r1.r9=true)=>bD (k:=8) h);generalize zA 8 r1=A at *;obtain⟨L0,r2⟩:=A;dsimp only at h2 P S2 |-
 generalize jB L0=L at *;have Q:=bA (fun W h=>vv B r2 W h h2);have hn1:(zA 4 r2).1<4294967296:=nL 4 r2;have h3:=Ra (vM 4 r2) h2;have S3:=bA (fun(h:r2.r9=true)=>bD (k:=4) h);generalize zA 4 r2=A at *;obtain⟨p,y⟩:=A;dsimp only at h3 hn1 Q S3 |-
 have S:=bA (fun W h=>vv B (nF y p).2 W h (Ra (gQ y p) h3));have hn2:(zA 4 (nF y p).2).1<4294967296:=nL 4 _;have h4:=Ra (vM 4 (nF y p).2) (Ra (gQ y p) h3);have S4:=bA (fun(h:(nF y p).2.r9=true)=>bD (k:=4) h);generalize zA 4 (nF y p).2=A at *;obtain⟨J,c2⟩:=A;dsimp only at h4 hn2 S S4 |-
 have S5:=bA (fun k (hk:k<=J) h=>mU (r:=c2) (k:=k) h J hk);have S40:=bA (fun k (hk:k<=p) h=>S5.out 0 (La _) (S4.out (mU (r:=y) (k:=k) h p hk)));have d0:=bA (fun h=>S40.out 0 (La _) h);have V:=bA (fun h=>d0.out (S3.out h));have S10:=bA (fun h=>V.out (S2.out h));clear S2 S3 S4;go_enter func97,ntmps97;go_wp2_with fail;refine(O.out _ G.out.T).mono ?_;rintro e w1 (⟨rfl,-,H,l⟩|⟨rfl,d,l⟩);rotate_left
 ·exact⟨rfl,Ja ⟨S10.out d,rfl,G.out.N.trans l⟩⟩
 replace G:=bA (G.out.call H l m);clear H l O S10;go_wp2_with fail;refine(P.out _ G.out.T).mono ?_;rintro e w2 (⟨rfl,-,H,l⟩|⟨rfl,d,l⟩);rotate_left
 ·exact⟨rfl,Ja ⟨V.out d,rfl,G.out.N.trans l⟩⟩
 replace G:=bA (G.out.call H l m);clear H l P V;have hR1:=aA G.out.Z;have X:=bA (eA.new w2 #[.string nm,.int .i64 L,.slice none 0 0,.slice none 0 0] 100);replace G:=bA (G.out.alloc (.cells #[.string nm,.int .i64 L,.slice none 0 0,.slice none 0 0] 100));go_wp2_with fail;refine(Q.out _ G.out.T).2.mono ?_;rintro e w3 (⟨rfl,hs3,H,l⟩|⟨rfl,d,l⟩);rotate_left
 ·exact⟨rfl,Ja ⟨d0.out (by rw[iW];exact d),rfl,G.out.N.trans l⟩⟩
 replace G:=bA (G.out.call H l m);replace X:=bA (X.out.but l (by omega));have HS3:=bA hs3;clear H l Q d0 hs3;generalize w2.heap.size=R2 at *;go_wp2;go_loopw [11] (fun i wr=>∃(k:Nat) (v:Value),k<=p/\i=.int .i64 k/\Hid (TG w wr B w.heap.size #[.string ⟨#[]⟩,.int .i64 0,.slice none 0 0,.slice none 0 0] 100 (nF y k).2)/\Hid (eA wr R2 #[.string nm,.int .i64 L,v,.slice none 0 0] 100)/\Hid (wr.ownsRow (R2+1) 107 2 v k (AX (nF y k).1))/\Hid ((nF y k).2.r9=false)) (fun i _=>p-(intOf i).toNat)
 case atStart=>exact⟨0,_,La _,rfl,bA (by rw[iW];exact G.out),X.out,bA (by rw[iW];exact World.ownsRow_nil _ _ _ _),bA (by rw[iW];exact HS3.out)⟩
 case round=>
  clear G X HS3;obtain⟨k,v,hk,rfl,G,X,R,s⟩:=hrel;by_cases g0:k<p
  ·obtain⟨tx,nu,rA,rB,P1,P2,F1,K,hk10⟩:=ae (B:=B) h3 s.out;have D:Hid (rB.r9=true->(nF c2 J).2.r9=true):=bA (by rw[<-K.out];exact S40.out (k+1) g0);have hRw:=aA X.out;have c0:wr.cell? ⟨R2,2,none⟩=some v:=X.out.cell 2;clear s;go_wp2_with fail;go_region_law (first
    |((fail_if_success (have q:=a));refine lG (f:=60) (args:=#[.pointer (some ⟨B,0,none⟩),.int .i64 2]) rfl (by go_simp) ?_;refine(P1.out _ (G.out.T.laterD (Below.refl _ _).drew)).mono ?_;rintro e w1 (⟨rfl,a,u⟩|⟨rfl,d,u⟩);rotate_left;exact Ja ⟨_,rfl,rfl,Ja ⟨D.out d,rfl,G.out.N.trans ((qN (dB.refl B wr)).trans u)⟩⟩;have I:dB B wr w1:=(qN (dB.refl B wr)).trans u;have x1:=(X.out.but I (by omega)).cell 2;refine Ca ⟨_,rfl,?_⟩)
    |(have q:=a;clear q;(fail_if_success (have q:=b));refine lG (f:=59) (args:=#[.pointer (some ⟨B,0,none⟩),.int .i64 8]) rfl (by go_simp) ?_;refine(P2.out _ a).mono ?_;rintro e w4 (⟨rfl,sB,b,x⟩|⟨rfl,d,x⟩);rotate_left;exact Ja ⟨_,rfl,rfl,Ja ⟨D.out d,rfl,G.out.N.trans (I.trans x)⟩⟩;have F:dB B wr w4:=I.trans x;have E:=bA (X.out.but F (by omega));have x4:=E.out.cell 2;have x5:=(E.out.alloc (.cells #[.string tx,.int .i64 nu] 107)).cell 2;refine Ca ⟨_,rfl,?_⟩)
    |(have q:=b;clear q;refine nX (by rfl) _ _ (by rfl) underlying97 wV rfl (by omega) (by omega) (v:=v) (by rfl) ((gA.but F).row R.out (fun g z e=>by have:=(R.out.lt g z).1;omega)) (by rfl) (by rfl) rfl (by simp[Value.oneCell']) (by omega) (by have:=F.size;omega) ?_;intro gg cap w5 HO U _;have s5:=(U.out.blk E.out (fun e=>by omega)).cell 2;have c:=(U.out.blk E.out (fun e=>by omega)).free 2))
   all_goals
    obtain⟨y1,y2,y3⟩:=pT E.out U.out HO.out (Ye _) 2;go_wp2;exact⟨⟨k+1,_,by omega,by go_num,bA (by rw[K.out];exact(G.out.call b F m).turn y3 (fun j e=>by omega) m (Ka _)),bA (by simpa using y1),bA (by rw[F1.out];exact y2),bA (by rw[K.out];exact sB)⟩,by simp[intOf];omega⟩
  ·obtain rfl:k=p:=by omega
   go_wp2_with fail;refine(S.out _ G.out.T).2.mono ?_;rintro e w5 (⟨rfl,hs5,H,l⟩|⟨rfl,d,l⟩);rotate_left
   ·exact⟨rfl,Ja ⟨S5.out 0 (La _) (by rw[iW];exact d),rfl,G.out.N.trans l⟩⟩
   have hRM:=aA X.out;have hv1:=fun g (z:v.ownBlock=some g)=>(R.out.lt g z).2;have hMw:=G.out.N.size;have hM5:=l.size;have Y:=bA ((gA.but l).row R.out (fun g z e=>by have:=(R.out.lt g z).1;omega));replace G:=bA (G.out.call H l m);replace X:=bA (X.out.but l (by omega));have HS5:=bA hs5;clear H l S s hs5 R;generalize wr.heap.size=M at *;obtain⟨p,rfl⟩:∃n,n=k:=⟨k,rfl⟩
   obtain⟨v1,rfl⟩:∃n,n=v:=⟨v,rfl⟩
   clear wr;go_wp2;go_loopw [26] (fun i wr=>∃(k:Nat) (v:Value),k<=J/\i=.int .i64 k/\Hid (TG w wr B w.heap.size #[.string ⟨#[]⟩,.int .i64 0,.slice none 0 0,.slice none 0 0] 100 (nF c2 k).2)/\Hid (eA wr R2 #[.string nm,.int .i64 L,v1,v] 100)/\Hid (wr.ownsRow M 109 2 v k (AX (nF c2 k).1))/\Hid ((nF c2 k).2.r9=false)/\Hid (wr.ownsRow (R2+1) 107 2 v1 p (AX (nF y p).1))/\M<=wr.heap.size) (fun i _=>J-(intOf i).toNat)
   case atStart=>exact⟨0,_,La _,rfl,bA (by rw[iW];exact G.out),X.out,bA (by rw[iW];exact World.ownsRow_nil _ _ _ _),bA (by rw[iW];exact HS5.out),Y.out,hM5⟩
   case round=>
    clear G X Y HS5;obtain⟨k,v,hk,rfl,G,X,R,s,Y,hM⟩:=hrel;by_cases g0:k<J
    ·obtain⟨tx,nu,rA,rB,P1,P2,F1,K,hk10⟩:=ae (B:=B) h4 s.out;have D:Hid (rB.r9=true->(nF c2 J).2.r9=true):=bA (by rw[<-K.out];exact S5.out (k+1) g0);have hRw:=aA X.out;have c0:wr.cell? ⟨R2,3,none⟩=some v:=X.out.cell 3;clear s;go_wp2_with fail;go_region_law (first
      |((fail_if_success (have q:=a));refine lG (f:=60) (args:=#[.pointer (some ⟨B,0,none⟩),.int .i64 2]) rfl (by go_simp) ?_;refine(P1.out _ (G.out.T.laterD (Below.refl _ _).drew)).mono ?_;rintro e w1 (⟨rfl,a,u⟩|⟨rfl,d,u⟩);rotate_left;exact Ja ⟨_,rfl,rfl,Ja ⟨D.out d,rfl,G.out.N.trans ((qN (dB.refl B wr)).trans u)⟩⟩;have I:dB B wr w1:=(qN (dB.refl B wr)).trans u;have x1:=(X.out.but I (by omega)).cell 3;refine Ca ⟨_,rfl,?_⟩)
      |(have q:=a;clear q;(fail_if_success (have q:=b));refine lG (f:=59) (args:=#[.pointer (some ⟨B,0,none⟩),.int .i64 8]) rfl (by go_simp) ?_;refine(P2.out _ a).mono ?_;rintro e w4 (⟨rfl,sB,b,x⟩|⟨rfl,d,x⟩);rotate_left;exact Ja ⟨_,rfl,rfl,Ja ⟨D.out d,rfl,G.out.N.trans (I.trans x)⟩⟩;have F:dB B wr w4:=I.trans x;have E:=bA (X.out.but F (by omega));have x4:=E.out.cell 3;have x5:=(E.out.alloc (.cells #[.string tx,.int .i64 nu] 109)).cell 3;refine Ca ⟨_,rfl,?_⟩)
      |(have q:=b;clear q;refine nX (by rfl) _ _ (by rfl) underlying98 BD rfl (by omega) (by omega) (v:=v) (by rfl) ((gA.but F).row R.out (fun g z e=>by have:=(R.out.lt g z).1;omega)) (by rfl) (by rfl) rfl (by simp[Value.oneCell']) (by omega) (by have:=F.size;omega) ?_;intro gg cap w5 HO U _;have s5:=(U.out.blk E.out (fun e=>by omega)).cell 3;have c:=(U.out.blk E.out (fun e=>by omega)).free 3))
     all_goals
      obtain⟨y1,y2,y3⟩:=pT E.out U.out HO.out hRM 3;go_wp2;exact⟨⟨k+1,_,by omega,by go_num,bA (by rw[K.out];exact(G.out.call b F m).turn y3 (fun j e=>by omega) m (Ka _)),bA (by simpa using y1),bA (by rw[F1.out];exact y2),bA (by rw[K.out];exact sB),y3.row ((gA.but F).row Y.out (fun g z e=>by have:=(Y.out.lt g z).1;omega)) (fun g z e=>by have h1:=hv1 g z;have h2:=(Y.out.lt g z).1;omega),Ra hM (Ra F.size y3.size)⟩,by simp[intOf];omega⟩
    ·obtain rfl:k=J:=by omega
     obtain⟨sa,sc,rfl⟩:=tS R.out;obtain⟨ra,rc,rfl⟩:=tS Y.out;obtain⟨a0,a1,a2,a3⟩:=X.out.c4;obtain⟨b0,I,b2,b3⟩:=G.out.Z.c4;have e0:=G.out.Z.free;have hZ:=aA G.out.Z;go_wp2;have C:=fun x0 x1 x2 x3=>((((gA.refl (·=w.heap.size) wr).setCell (Ca rfl) 0 x0).setCell (Ca rfl) 1 x1).setCell (Ca rfl) 2 x2).setCell (Ca rfl) 3 x3;refine bodyPost_ret (v:=?_) (by simp[results,results97,go_sem,b0,I,b2,b3];rfl) rfl (Ca ⟨s.out,M,ra,rc,sa,sc,by rw[kR,kR],hMw,(vC (by rw[kR];exact(C _ _ _ _).row Y.out (fun q hq e=>by have:=(Y.out.lt q hq).1;omega))).mono (by omega),fun g o h=>hv1 g (by rw[h];rfl),vC (by rw[kR];exact(C _ _ _ _).row R.out (fun q hq e=>by have:=(R.out.lt q hq).1;omega)),?_,G.out.T.imp fun _ h=>(C _ _ _ _).blk h (by omega),G.out.N.upToD ((C _ _ _ _).below (by omega) fun q hq e=>by omega)⟩);exact Ra hM (C _ _ _ _).size
