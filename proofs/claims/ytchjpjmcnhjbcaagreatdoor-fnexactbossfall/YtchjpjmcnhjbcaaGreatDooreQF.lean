import Derived.Test.YtchjpjmcnhjbcaaGreatDooreP5
set_option maxRecDepth 100000
set_option linter.unusedVariables false
set_option maxHeartbeats 8000000
namespace Go.Proofs.YtchjpjmcnhjbcaaGreatDoor
open Proofs.Tryz Go.RowKit
variable {b base g k:Nat} {c:UInt8} {l t:List UInt8} {w:World} {ss:List (List UInt8)}
theorem JG (s:BY) (w:World) (a:s.size<=1048700):
 Calls prog 187 #[.string s] w fun e w'=>e=.returned (.string (J3 (P5 s.data.toList)))/\Bw w w':=a3G s w a
theorem NM (c:UInt8):H_ c=true↔32<=c.toNat/\c.toNat<=126/\c.toNat≠34/\c.toNat≠92:=by
 unfold H_;simp only [V_,Ud,qI,p_];omega
theorem JP:∀ a b:Fin 16,hexL.getD a.val 0=hexL.getD b.val 0->a=b:=o6
theorem Vw {a:Nat} (ha:a<16) (c:b<16) (h:hexL.getD a 0=hexL.getD b 0):a=b:=by
 have:=JP ⟨a,ha⟩ ⟨b,c⟩ h;exact Fin.mk.inj this
theorem Gt (c:UInt8):c.toNat<256:=c.toNat_lt
theorem uf (h:H_ c=true):qb c=[c]:=by unfold qb;rw [if_pos h]
theorem Gf (h:H_ c=false):qb c=[92,hexL.getD (c.toNat / 16) 0,hexL.getD (c.toNat % 16) 0]:=by unfold qb;rw [if_neg (by simp [h])]
theorem Zz:H_ 92=false:=o6
theorem oL (c:UInt8):qb c≠[]:=by
 cases h:H_ c
 · rw [Gf h];simp
 · rw [uf h];simp
theorem LY {d:UInt8} {r q:List UInt8} (h:qb c++r=qb d++q):c=d/\r=q:=by
 cases hc:H_ c <;> cases hd:H_ d
 · rw [Gf hc,Gf hd] at h;simp only [rf,Ua,zi,Oy] at h;obtain ⟨h1,h2,a⟩:=h;have lc:=Gt c;have ld:=Gt d;have e1:=Vw O0 O0 h1;have e2:=Vw O0 O0 h2;exact ⟨Yh.1 O0,a⟩
 · rw [Gf hc,uf hd] at h;simp only [rf,Ua,zi] at h;rw [<- h.1,Zz] at hd;cases hd
 · rw [uf hc,Gf hd] at h;simp only [rf,Ua,zi] at h;rw [h.1,Zz] at hc;cases hc
 · rw [uf hc,uf hd] at h;simpa using h
theorem IG {R:List UInt8} (h:t.flatMap qb++R=l.flatMap qb):∃ r,R=r.flatMap qb/\l=t++r:=by
 induction t generalizing l with
 | nil=>exact ⟨l,by simpa using h,rfl⟩
 | cons c t ih=>
  cases l with
  | nil=>
   have:=oL c;simp at h;exact absurd h.1 this
  | cons d l=>
   simp only [vg,iq] at h;obtain ⟨rfl,h2⟩:=LY h;obtain ⟨r,hr,hl⟩:=ih h2;exact ⟨r,hr,by rw [hl];rfl⟩
theorem fP (h:t.flatMap qb=l.flatMap qb):t=l:=by
 obtain ⟨r,hr,hl⟩:=IG (t:=t) (l:=l) (R:=[]) (by simpa using h)
 cases r with
 | nil=>simpa using hl.symm
 | cons c r=>
  have:=oL c;simp at hr;exact absurd hr.1 this
theorem Yl (h:P5 t=P5 l):t=l:=by
 unfold P5 at h;simp only [zi,Oy,OT] at h;exact fP h
theorem bV (l:List UInt8):l.length<=(l.flatMap qb).length:=by
 induction l with
 | nil=>simp
 | cons c l ih=>
  have:1<=(qb c).length:=pq.2 (oL c);simp only [vg,D9,o_];omega
theorem Xm (l:List UInt8):l.length+2<=(P5 l).length:=by
 have:=bV l;unfold P5;simp only [List.length_cons,List.length_append,List.length_nil];omega
theorem wC:∀ a:Fin 16,hexL.getD a.val 0≠10/\hexL.getD a.val 0≠32:=o6
theorem rV (c:UInt8):(10:UInt8)∉qb c:=by
 cases h:H_ c
 · rw [Gf h];have lc:=Gt c;have h1:=(wC ⟨c.toNat / 16,O0⟩).1;have h2:=(wC ⟨c.toNat % 16,O0⟩).1;simp only [Jd,Sm,or_false,Rl];exact ⟨o6,fun e=>h1 e.symm,fun e=>h2 e.symm⟩
 · rw [uf h];have:=(NM c).1 h;simp only [Jd,Sm,or_false];intro e;rw [<- e] at this;simp at this
theorem Ti (l:List UInt8):(10:UInt8)∉P5 l:=by
 unfold P5;simp only [Jd,Yg,zD,Sm,or_false,Rl];refine ⟨o6,fun ⟨c,_,h⟩=>rV c h,o6⟩
def cst (b:UInt8) (p:List (List UInt8)×List UInt8) (c:UInt8):List (List UInt8)×List UInt8:=if c=b then (p.1++[p.2],[]) else (p.1,p.2++[c])
def y8 (b:UInt8) (l:List UInt8):List (List UInt8)×List UInt8:=l.foldl (cst b) ([],[])
def G8 (b:UInt8) (l:List UInt8):List (List UInt8):=(y8 b l).1++[(y8 b l).2]
theorem Zm (b:UInt8) (l:List UInt8) (c:UInt8):y8 b (l++[c])=cst b (y8 b l) c:=by simp [y8]
theorem JH (b:UInt8) (l:List UInt8) (p:List (List UInt8)×List UInt8):(l.foldl (cst b) p).1.length<=p.1.length+l.length:=by
 induction l generalizing p with
 | nil=>simp
 | cons c l ih=>
  have:=ih (cst b p c);have h2:(cst b p c).1.length<=p.1.length+1:=by unfold cst;split <;> simp
  simp only [iw,o_];omega
theorem Gu (b:UInt8) (l:List UInt8):(y8 b l).1.length<=l.length:=by have:=JH b l ([],[]);simpa [y8] using this
def Dt (ss:List (List UInt8)):List Value:=ss.map fun l=>.string (J3 l)
theorem Tf (ss:List (List UInt8)) (l:List UInt8):Dt (ss++[l])=Dt ss++[.string (J3 l)]:=by simp [Dt]
def Xb (w:World) (g:Nat) (ss:List (List UInt8)):Prop:=g<w.heap.size/\∀ i,i<ss.length->w.cell? ⟨g,i,none⟩=some (.string (J3 (ss.getD i [])))
theorem lg {w':World} (h:Xb w g ss) (a:Bw w w'):Xb w' g ss:=
 ⟨O9 h.1 a.size,fun i b=>by rw [a.cell (by exact h.1)];exact h.2 i b⟩
theorem Dh (h:w.ownsRow base 9 1 (.slice (some ⟨g,0,none⟩) k b) k (Dt ss)) (hl:ss.length=k):Xb w g ss:=by
 refine ⟨(h.lt g rfl).2,fun i a=>?_⟩;rw [h.cellAt i O0];simp [Dt,a]
theorem ul {e:TypeId} {size:Nat} {v:Value} {n:Nat} {xs:List Value} (h:w.ownsRow base e size v n xs) (hn:0<n):∃ g a,v=.slice (some ⟨g,0,none⟩) n a:=by
 rcases h.2 with ⟨_,h0⟩ | ⟨g,b,cur,hv,_⟩
 · omega
 · exact ⟨g,b,hv⟩
theorem Qb {s:BY} (h:s.data.toList=l):s=J3 l:=by
 apply Df;unfold J3;rw [<- h]
theorem Ya (s:BY) (a b:Nat):(s.extract a b).data.toList=(s.data.toList.take b).drop a:=by
 rw [ByteArray.data_extract,Array.toList_extract,yO,gJ]
theorem WO (s:BY) (b:UInt8) (w:World) (hs:s.size<=1048700):
 Calls prog 136 #[.string s,.int .u8 b.toNat] w fun e w'=>(∃ g o,e=.returned (.slice (some ⟨g,0,none⟩) (G8 b s.data.toList).length o)/\w.heap.size<=g/\Xb w' g (G8 b s.data.toList))/\Bw w w':=by
 obtain ⟨z,H,C,B,A⟩:=info_parts info9;have hlen:s.data.toList.length=s.size:=X4;go_enter func136,ntmps136
 go_wp2_with fail
 go_loopw [5,6,7] (fun v fr i wr=>∃ (k f:Nat),k<=s.size/\f<=k/\i=.int .i64 k/\fr=.int .i64 f/\wr.ownsRow w.heap.size 9 1 v (y8 b (s.data.toList.take k)).1.length (Dt (y8 b (s.data.toList.take k)).1)/\Hid ((s.data.toList.take k).drop f=(y8 b (s.data.toList.take k)).2)/\Below w.heap.size w wr/\w.heap.size+1<=wr.heap.size) (fun _ _ i _=>s.size - (RowKit.intOf i).toNat)
 case atStart=>exact ⟨0,0,J4 _,v_ _,rfl,rfl,Iu _ #[] 0 H8 (J4 _) rfl,rfl,P6,X4⟩
 case round=>
  obtain ⟨k,f,hk,hf,rfl,rfl,c,d,h,J⟩:=hrel;have hL:(y8 b (s.data.toList.take k)).1.length<=k:=by
   have:=Gu b (s.data.toList.take k);rw [B_] at this;omega
  by_cases E:k<s.size
  · have p:Hid (y8 b (s.data.toList.take (k+1))=cst b (y8 b (s.data.toList.take k)) s[k]):=by rw [take_snoc s k E,Zm];rfl
    have t:Hid (s.extract f k=J3 (y8 b (s.data.toList.take k)).2):=Qb (by rw [Ya];exact d.out);by_cases hc:s[k]=b
    · have e1:((s[k].toNat:Int)==(b.toNat:Int))=true:=by rw [hc];simp
      have l:Hid (cst b (y8 b (s.data.toList.take k)) s[k]=((y8 b (s.data.toList.take k)).1++[(y8 b (s.data.toList.take k)).2],[])):=by unfold cst;rw [if_pos hc];rfl
      have x:Hid ((s.data.toList.take (k+1)).drop (k+1)=[]):=jq U7;clear hc d;generalize y8 b (s.data.toList.take k)=st at*
      go_wp2_with (at_builtin;refine wpList_append_own _ rfl _ _ 22 rfl w.heap.size 9 z (.string ⟨#[]⟩) 1 16 underlying22 H C B A rfl o6 _ _ _ rfl (c.alloc _) ⟨wr.heap.size,0,none⟩ 1 1 [_] rfl rfl (cell_one_new _ _ _) (by intro u a;simp at a;subst a;rfl) (by unfold maxLen;omega) O0 U7 ?_;intro v' y m n _)
      go_roundw
      case rel=>
       have r:=(h.alloc h.size _).grown n U7 (fun j q=>(c.lt j q).1);refine ⟨k+1,k+1,O0,v_ _,by go_num,by go_num,?_,?_,r,by have:=n.size;simp at this;omega⟩
       · rw [p.out,l.out,D9,Tf,<- t.out];exact m
       · rw [p.out,l.out];exact x.out
      case measure=>simp [RowKit.intOf];omega
    · have e1:((s[k].toNat:Int)==(b.toNat:Int))=false:=by
       simp only [p_];intro e;exact hc (Yh.1 O0)
      have l:Hid (cst b (y8 b (s.data.toList.take k)) s[k]=((y8 b (s.data.toList.take k)).1,(y8 b (s.data.toList.take k)).2++[s[k]])):=by unfold cst;rw [if_neg hc];rfl
      have x:Hid ((s.data.toList.take (k+1)).drop f=(s.data.toList.take k).drop f++[s[k]]):=by rw [take_snoc s k E,yI U7];rfl
      clear hc;generalize y8 b (s.data.toList.take k)=st at*;go_wp2;go_roundw
      case rel=>
       refine ⟨k+1,f,O0,O0,by go_num,rfl,?_,?_,h,J⟩
       · rw [p.out,l.out];exact c
       · rw [p.out,l.out,x.out,d.out];rfl
      case measure=>simp [RowKit.intOf];omega
  · have L:Hid (s.data.toList.take k=s.data.toList):=l_ O0;have t:Hid (s.extract f s.size=J3 (y8 b (s.data.toList.take k)).2):=Qb (by rw [Ya,<- show k=s.size by omega];exact d.out);have I:Hid (G8 b s.data.toList=(y8 b (s.data.toList.take k)).1++[(y8 b (s.data.toList.take k)).2]):=by rw [L.out];rfl
    clear d;generalize y8 b (s.data.toList.take k)=st at*
    go_wp2_with (at_builtin;refine wpList_append_own _ rfl _ _ 22 rfl w.heap.size 9 z (.string ⟨#[]⟩) 1 16 underlying22 H C B A rfl o6 _ _ _ rfl (c.alloc _) ⟨wr.heap.size,0,none⟩ 1 1 [_] rfl rfl (cell_one_new _ _ _) (by intro u a;simp at a;subst a;rfl) (by unfold maxLen;omega) O0 U7 ?_;intro v' y m n _;obtain ⟨g,o,K⟩:=ul m O0;subst K)
    go_ret;have r:=(h.alloc h.size _).grown n U7 (fun j q=>(c.lt j q).1);have D:y.ownsRow w.heap.size 9 1 (vL (some (aA g 0)) (st.1.length+1) o) (st.1.length+1) (Dt (G8 b s.data.toList)):=by
     rw [I.out,Tf,<- t.out];exact m
    have F:(G8 b s.data.toList).length=st.1.length+1:=by rw [I.out];simp
    refine ⟨⟨g,o,by rw [F];rfl,(D.lt g rfl).1,Dh D F⟩,r⟩
def O1 (l:List UInt8):List UInt8:=l.takeWhile (· !=32)
def Y1 (l:List UInt8):List UInt8:=(l.dropWhile (· !=32)).drop 1
theorem lm (ha:(l.take k).all (· !=32)=true) (_hk:k<=l.length) (he:k=l.length\/l.getD k 0=32):O1 l=l.take k/\Y1 l=l.drop (k+1):=by
 have h:l.takeWhile (· !=32)=l.take k/\l.dropWhile (· !=32)=l.drop k:=by
  rcases Q7 k l.length with c | d
  · have hx:l[k]=32:=by
     rcases he with he | he
     · omega
     · simpa [c] using he
    have e:l=l.take k++l[k]::l.drop (k+1):=by rw [<- Xz c,Hl]
    have b:∀ a∈l.take k,(a !=32)=true:=fun a h=>Jo.1 ha a h;constructor
    · conv=>lhs;rw [e]
      rw [rO b,hx];simp
    · conv=>lhs;rw [e]
      rw [UQ b,hx];rw [Xz c,hx];simp
  · rw [l_ d] at ha;rw [l_ d,jq d];have b:∀ a∈l,(a !=32)=true:=fun a h=>Jo.1 ha a h;have:=rO (l₂:=[]) b;have h2:=UQ (l₂:=[]) b;simp only [Wy,List.takeWhile_nil,List.dropWhile_nil] at this h2;exact ⟨this,h2⟩
 refine ⟨h.1,?_⟩;unfold Y1;rw [h.2,yE]
