import Derived.Test.YtlbpnlngckgcbaaGreatDoorM06
set_option linter.all false
set_option maxHeartbeats 4000000
set_option maxRecDepth 100000
namespace Go.Proofs.YtlbpnlngckgcbaaGreatDoor
open Go.RowKit Go.PlainAid
theorem ed (c:Int) (w:World):Calls Tryz.prog 185 #[.int .u8 c] w fun e w'=>e=.returned (.bool (letter c))∧w'=w:=by
 by_cases h1:97≤c
 ·go_enter Tryz.func185,Tryz.ntmps185;go_wp2;go_ret;exact ⟨by simp [letter,h1],rfl⟩
 ·go_enter Tryz.func185,Tryz.ntmps185;go_wp2;go_ret;exact ⟨by simp [letter];omega,rfl⟩
theorem fJ (c:Int) (w:World):Calls Tryz.prog 186 #[.int .u8 c] w fun e w'=>e=.returned (.bool (digit c))∧w'=w:=by
 by_cases h1:48≤c
 ·go_enter Tryz.func186,Tryz.ntmps186;go_wp2;go_ret;exact ⟨by simp [digit,h1],rfl⟩
 ·go_enter Tryz.func186,Tryz.ntmps186;go_wp2;go_ret;exact ⟨by simp [digit];omega,rfl⟩
theorem uI {w:World} {base:Nat} {e:TypeId} {size n g cap:Nat} {xs:List Value} (h:w.ownsRow base e size (.slice (some ⟨g,0,none⟩) n cap) n xs) (j:Nat) (u:Value):(w.setCell ⟨g,j,none⟩ u).ownsRow base e size (.slice (some ⟨g,0,none⟩) n cap) n (xs.set j u):=by
 obtain ⟨hl,h⟩:=h
 rcases h with ⟨h,_⟩|⟨g',cap',cur,e1,hb,hh,h1,h2,h3,h4⟩
 ·cases h
 ·simp only [Value.slice.injEq,Option.some.injEq,Addr.mk.injEq] at e1;obtain ⟨⟨rfl,_,_⟩,_,rfl⟩:=e1;refine ⟨by simp [hl],.inr ⟨g,cap,cur.setIfInBounds j u,rfl,hb,ai.set hh j u,h1,h2,by simp [h3],?_⟩⟩;rw [Array.toList_setIfInBounds,List.take_set,h4]
theorem jQ {w:World} {base:Nat} {e:TypeId} {size n m g cap:Nat} {xs:List Value} (h:w.ownsRow base e size (.slice (some ⟨g,0,none⟩) m cap) n xs):∃cur,ai w g cur e∧base≤g:=by
 rcases h.2 with ⟨h,_⟩|⟨g',cap',cur,e1,hb,hh,h1,h2,h3,h4⟩
 ·cases h
 ·simp only [Value.slice.injEq,Option.some.injEq,Addr.mk.injEq] at e1;obtain ⟨⟨rfl,_,_⟩,_,rfl⟩:=e1;exact ⟨cur,hh,hb⟩
theorem WQ (a c:List UInt8):mk a++mk c=mk (a++c):=by
 rw [←gV (mk a++mk c)]
 congr 1
theorem Pe (l:List Tk) (i:Nat) (t:Tk) (h:l[i]? =some t):(aL l)[i*3]? =some (.string (mk t.text))∧(aL l)[i*3+1]? =some (.int .i64 t.place)∧(aL l)[i*3+2]? =some (.bool t.word):=by
 unfold aL
 induction l generalizing i with
 |nil=>simp at h
 |cons a l ih=>
  cases i with
  |zero=>
   simp at h;subst h;simp [gG]
  |succ i=>
   simp at h;have:=ih i h;rw [List.flatMap_cons,show (i+1)*3=i*3+3 by omega];simp only [gG,List.cons_append,List.nil_append,List.getElem?_cons_succ];exact this
theorem Lc (l:List Tk):(aL l).length=l.length*3:=by
 unfold aL
 induction l with
 |nil=>rfl
 |cons a l ih=>rw [List.flatMap_cons,List.length_append,ih];simp [gG];omega
theorem SY (l:List Tk) (t:Tk) (c:UInt8):aL (l++[⟨t.text++[c],t.place,t.word⟩])=(aL (l++[t])).set (l.length*3) (.string (mk (t.text++[c]))):=by
 unfold aL;rw [List.flatMap_append,List.flatMap_append,List.set_append_right _ _ (by rw [←aL,Lc];omega),←aL,Lc];simp [gG]
theorem Tryz.infoTk:(Tryz.prog.info? 259).map (fun i=>(i.zero,i.size,i.bytes))=some (some (.agg #[.string ⟨#[]⟩,.int .i64 0,.bool false]),3,32):=by kernel_rfl
theorem S9 (s:aei) (k:Nat) (h:k<s.size):s.extract k (k+1)=mk [(bi s)[k]'(by rw [aG];exact h)]:=by
 rw [extract_mk,show k+1-k=1 by omega];rw [List.drop_eq_getElem_cons (by rw [aG];exact h)]
 rfl
theorem EY (s:aei) (w:World) (hs:s.size≤500):
  Calls Tryz.prog 126 #[.string s] w fun e w'=>∃v,e=.returned v∧Below w.heap.size w w'∧w'.ownsRow w.heap.size 259 3 v (jM s).length (aL (jM s)):=by
 have gb:=get_bt s;have HS:=af hs;obtain ⟨i0,hi,hz0,hz1,hz2⟩:=info_parts Tryz.infoTk;have HI:=af hi;have fG:=af hz0;have fH:=af hz1;have fI:=af hz2;clear hi hz0 hz1 hz2;go_enter Tryz.func126,Tryz.ntmps126;go_wp2
 go_loopw [3,4,5] (fun vl vo vi wr=>∃(k:Nat) (l:List Tk) (o:Bool),k≤s.size∧vo=.bool o∧vi=.int .i64 k∧Below w.heap.size w wr∧wr.ownsRow w.heap.size 259 3 vl l.length (aL l)∧l.length≤k∧(o=true→l≠ [])∧(∀t∈l,t.text.length≤k)∧Hid (gK k ((bi s).drop k) (l,o)=gK 0 (bi s) ([],false))) (fun _ _ vi _=>s.size-(intOf vi).toNat)
 case atStart=>exact ⟨0,[],false,by omega,rfl,rfl,Below.refl _ _,World.ownsRow_nil _ _ _ _,by simp,by simp,by simp,af rfl⟩
 case round=>
  obtain ⟨k,l,o,hk,rfl,rfl,hb,hrow,hlk,hol,htx,HF⟩:=hrel;have RO:=af htx;obtain ⟨la,lc,rfl⟩:=au hrow;have HB:=af hb;have HR:=af hrow;have HO:=af hol;clear hb hrow hol htx
  by_cases hlt:k<s.size
  ·have hkl:k<(bi s).length:=by rw [aG];exact hlt
   have HC:=af (xZ s k hkl);have hF:=ae HF;rw [List.drop_eq_getElem_cons hkl] at hF;simp only [gK,stepT] at hF;have hX:=S9 s k hlt;generalize hcc:(bi s)[k]=c at*
   by_cases hbl:blank (bt s k)=true
   ·have hbc:eB c=true:=by unfold eB;rw [←ae HC];exact hbl
    rw [if_pos hbc] at hF;have Pf:=af hF;have h3:bt s k=32∨bt s k=9∨bt s k=10:=by
     unfold blank at hbl
     simpa [or_assoc] using hbl
    clear hF HF hbl hX hcc
    rcases h3 with h3|h3|h3
    all_goals
     go_wp2_with (first|(go_at_call 185;refine (ed _ _).mono ?_;rintro e w' ⟨rfl,rfl⟩)|(go_at_call 186;refine (fJ _ _).mono ?_;rintro e w' ⟨rfl,rfl⟩));go_roundw
     case rel=>exact ⟨k+1,l,false,by omega,rfl,by go_num,ae HB,ae HR,by omega,by simp,fun t ht=>Nat.le_succ_of_le (ae RO t ht),Pf⟩
     case measure=>simp [intOf];omega
   ·have WR:blank (bt s k)=false:=by simpa using hbl
    have hbc:eB c=false:=by unfold eB;rw [←ae HC];exact WR
    have n3:¬(bt s k=32)∧¬(bt s k=9)∧¬(bt s k=10):=by
     unfold blank at WR;simp at WR;exact ⟨WR.1.1,WR.1.2,WR.2⟩
    obtain ⟨n31,n32,n33⟩:=n3;have m31:(bt s k==32)=false:=beq_eq_false_iff_ne.2 n31;have m32:(bt s k==9)=false:=beq_eq_false_iff_ne.2 n32;have m33:(bt s k==10)=false:=beq_eq_false_iff_ne.2 n33;rw [if_neg (by rw [hbc];simp)] at hF;have HX:=af hX;clear hbl WR hbc HF hX hcc;have hwd:dO c=(letter (bt s k)||digit (bt s k)):=by unfold dO;rw [ae HC]
    have uF:letter c.toNat=letter (bt s k):=by rw [ae HC]
    rw [hwd,uF] at hF;have HF:=af hF;clear hF hwd uF
    by_cases hw:(o&&(letter (bt s k)||digit (bt s k)))=true
    ·have hF:=ae HF;rw [if_pos hw] at hF;rw [Bool.and_eq_true] at hw;obtain ⟨rfl,hw⟩:=hw;obtain ⟨l0,t,rfl⟩:∃l0 t,l=l0++[t]:=⟨l.dropLast,l.getLast (ae HO rfl),(List.dropLast_concat_getLast _).symm⟩;rw [qM] at hF;have Pf:=af hF;clear hF HF HO;have hlen:(l0++[t]).length=l0.length+1:=by simp
     rw [hlen] at HR;rw [hlen];obtain ⟨g,gc,e1,k0⟩:=aK (ae HR) (l0.length*3) _ (Pe (l0++[t]) l0.length t (by simp)).1;simp only [Value.slice.injEq] at e1;obtain ⟨rfl,_,rfl⟩:=e1;obtain ⟨cur,hblk,hgb⟩:=jQ (ae HR);have zg:=ai.fz hblk;have lg:=ai.lt hblk;have Zf:=ae RO t (by simp);have hmx:¬(9223372036854775807<(mk t.text).size+(s.extract k (k+1)).size):=by
      rw [ae HX,←aG,←aG,sD,sD];simp;omega
     have Dp:=af (show ∀x∈l0++[⟨t.text++[c],t.place,t.word⟩],x.text.length≤k+1 from fun x hx=>by
      rw [List.mem_append,List.mem_singleton] at hx
      rcases hx with hx|rfl
      ·exact Nat.le_succ_of_le (ae RO x (by simp [hx]))
      ·simp;omega)
     have hlk':l0.length+1≤k:=by rw [hlen] at hlk;exact hlk
     clear hblk hlen hlk RO Zf;have HN:=af (show (aL (l0++[t])).set (l0.length*3) (.string (mk t.text++s.extract k (k+1)))=aL (l0++[⟨t.text++[c],t.place,t.word⟩]) from by rw [SY,ae HX,WQ])
     cases hl:letter (bt s k)
     ·have hd:digit (bt s k)=true:=by rw [hl] at hw;simpa using hw
      clear hw;go_wp2_with (first|(go_at_call 185;refine (ed _ _).mono ?_;rintro e w' ⟨rfl,rfl⟩)|(go_at_call 186;refine (fJ _ _).mono ?_;rintro e w' ⟨rfl,rfl⟩))
      go_region
      go_wp2;go_roundw
      case rel=>exact ⟨k+1,l0++[⟨t.text++[c],t.place,t.word⟩],true,by omega,rfl,by go_num,Below.drew ((ae HB).setCell hgb _),(by
       have:=uI (ae HR) (l0.length*3) (.string (mk t.text++s.extract k (k+1)));rw [ae HN] at this;rw [show (l0++[(⟨t.text++[c],t.place,t.word⟩:Tk)]).length=l0.length+1 by simp];exact this),by simp;omega,by simp,ae Dp,Pf⟩
      case measure=>simp [intOf];omega
     ·clear hw;go_wp2_with (first|(go_at_call 185;refine (ed _ _).mono ?_;rintro e w' ⟨rfl,rfl⟩)|(go_at_call 186;refine (fJ _ _).mono ?_;rintro e w' ⟨rfl,rfl⟩))
      go_region
      go_wp2;go_roundw
      case rel=>exact ⟨k+1,l0++[⟨t.text++[c],t.place,t.word⟩],true,by omega,rfl,by go_num,Below.drew ((ae HB).setCell hgb _),(by
       have:=uI (ae HR) (l0.length*3) (.string (mk t.text++s.extract k (k+1)));rw [ae HN] at this;rw [show (l0++[(⟨t.text++[c],t.place,t.word⟩:Tk)]).length=l0.length+1 by simp];exact this),by simp;omega,by simp,ae Dp,Pf⟩
      case measure=>simp [intOf];omega
    ·have hF:=ae HF;rw [if_neg hw] at hF;have Pf:=af hF;have Dp:=af (show ∀x∈l++[⟨[c],k,letter (bt s k)⟩],x.text.length≤k+1 from fun x hx=>by
      rw [List.mem_append,List.mem_singleton] at hx
      rcases hx with hx|rfl
      ·exact Nat.le_succ_of_le (ae RO x hx)
      ·simp)
     clear hF HF RO HO
     cases o
     ·clear hw
      cases hl:letter (bt s k)
      ·rw [hl] at Pf Dp;go_wp2_with (first|(go_at_call 185;refine (ed _ _).mono ?_;rintro e w' ⟨rfl,rfl⟩)|(go_at_call 186;refine (fJ _ _).mono ?_;rintro e w' ⟨rfl,rfl⟩)|(at_builtin;go_must (refine wpList_append_lies _ rfl _ _ 249 rfl w.heap.size 259 i0 _ 3 32 Tryz.underlying249 (ae HI) (ae fG) (ae fH) (ae fI) rfl (by decide) (.slice la l.length lc) l.length (aL l) rfl ?yH ⟨w'.heap.size,0,none⟩ 1 1 [.string (s.extract k (k+1)),.int .i64 k,.bool false] rfl rfl ?mf ?nS (by decide) ?oC ?dX ?mg (w'.heap.size+1) ?Pg ?kw)))
       case yH=>exact (ae HR).alloc _
       case mf=>exact World.news_of_block (B:=w'.heap.size) (cs:=#[.string (s.extract k (k+1)),.int .i64 k,.bool false]) (t:=259) (fr:=(0,0)) (ai.new _ _ _)
       case nS=>
        intro u hu;simp at hu
        rcases hu with rfl|rfl|rfl<;>rfl
       case oC=>unfold maxLen;omega
       case dX=>omega
       case mg=>have:=(ae HB).size;simp;omega
       case Pg=>simp
       case kw=>
        intro g5 aD w5 aC aj aP di;have fU:=(ae HR).alloc (.cells #[.string (s.extract k (k+1)),.int .i64 k,.bool false] 259);have B5:=af (Below.grown ((ae HB).alloc (ae HB).size (.cells #[.string (s.extract k (k+1)),.int .i64 k,.bool false] 259)) aj (by have:=(ae HB).size;simp;omega) (fun k hk=>(fU.lt k hk).1));have O5:=af (show w5.ownsRow w.heap.size 259 3 (.slice (some ⟨g5,0,none⟩) (l.length+1) aD) (l++[(⟨[c],k,false⟩:Tk)]).length (aL (l++[⟨[c],k,false⟩])) from by
         rw [show (l++[(⟨[c],k,false⟩:Tk)]).length=l.length+1 by simp];have e:aL (l++[⟨[c],k,false⟩])=aL l++[.string (s.extract k (k+1)),.int .i64 k,.bool false]:=by
          unfold aL;rw [List.flatMap_append,ae HX];simp [gG]
         rw [e];exact aC)
        clear fU aC aj aP;go_wp2;go_roundw
        case rel=>exact ⟨k+1,l++[⟨[c],k,false⟩],false,by omega,rfl,by go_num,ae B5,ae O5,by simp;omega,by simp,ae Dp,Pf⟩
        case measure=>simp [intOf];omega
      ·rw [hl] at Pf Dp;go_wp2_with (first|(go_at_call 185;refine (ed _ _).mono ?_;rintro e w' ⟨rfl,rfl⟩)|(go_at_call 186;refine (fJ _ _).mono ?_;rintro e w' ⟨rfl,rfl⟩)|(at_builtin;go_must (refine wpList_append_lies _ rfl _ _ 249 rfl w.heap.size 259 i0 _ 3 32 Tryz.underlying249 (ae HI) (ae fG) (ae fH) (ae fI) rfl (by decide) (.slice la l.length lc) l.length (aL l) rfl ?pX ⟨w'.heap.size,0,none⟩ 1 1 [.string (s.extract k (k+1)),.int .i64 k,.bool true] rfl rfl ?ky ?nU (by decide) ?vP ?iO ?kD (w'.heap.size+1) ?Mv ?nz)))
       case pX=>exact (ae HR).alloc _
       case ky=>exact World.news_of_block (B:=w'.heap.size) (cs:=#[.string (s.extract k (k+1)),.int .i64 k,.bool true]) (t:=259) (fr:=(0,0)) (ai.new _ _ _)
       case nU=>
        intro u hu;simp at hu
        rcases hu with rfl|rfl|rfl<;>rfl
       case vP=>unfold maxLen;omega
       case iO=>omega
       case kD=>have:=(ae HB).size;simp;omega
       case Mv=>simp
       case nz=>
        intro g5 aD w5 aC aj aP di;have fU:=(ae HR).alloc (.cells #[.string (s.extract k (k+1)),.int .i64 k,.bool true] 259);have B5:=af (Below.grown ((ae HB).alloc (ae HB).size (.cells #[.string (s.extract k (k+1)),.int .i64 k,.bool true] 259)) aj (by have:=(ae HB).size;simp;omega) (fun k hk=>(fU.lt k hk).1));have O5:=af (show w5.ownsRow w.heap.size 259 3 (.slice (some ⟨g5,0,none⟩) (l.length+1) aD) (l++[(⟨[c],k,true⟩:Tk)]).length (aL (l++[⟨[c],k,true⟩])) from by
         rw [show (l++[(⟨[c],k,true⟩:Tk)]).length=l.length+1 by simp];have e:aL (l++[⟨[c],k,true⟩])=aL l++[.string (s.extract k (k+1)),.int .i64 k,.bool true]:=by
          unfold aL;rw [List.flatMap_append,ae HX];simp [gG]
         rw [e];exact aC)
        clear fU aC aj aP;go_wp2;go_roundw
        case rel=>exact ⟨k+1,l++[⟨[c],k,true⟩],true,by omega,rfl,by go_num,ae B5,ae O5,by simp;omega,by simp,ae Dp,Pf⟩
        case measure=>simp [intOf];omega
     ·have hl:letter (bt s k)=false:=by
       cases h:letter (bt s k)
       ·rfl
       ·rw [h] at hw;simp at hw
      have hd:digit (bt s k)=false:=by
       cases h:digit (bt s k)
       ·rfl
       ·rw [h] at hw;simp at hw
      clear hw;rw [hl] at Pf Dp;go_wp2_with (first|(go_at_call 185;refine (ed _ _).mono ?_;rintro e w' ⟨rfl,rfl⟩)|(go_at_call 186;refine (fJ _ _).mono ?_;rintro e w' ⟨rfl,rfl⟩)|(at_builtin;go_must (refine wpList_append_lies _ rfl _ _ 249 rfl w.heap.size 259 i0 _ 3 32 Tryz.underlying249 (ae HI) (ae fG) (ae fH) (ae fI) rfl (by decide) (.slice la l.length lc) l.length (aL l) rfl ?EZ ⟨w'.heap.size,0,none⟩ 1 1 [.string (s.extract k (k+1)),.int .i64 k,.bool false] rfl rfl ?yI ?yJ (by decide) ?vQ ?iP ?yK (w'.heap.size+1) ?hHC ?nA)))
      case EZ=>exact (ae HR).alloc _
      case yI=>exact World.news_of_block (B:=w'.heap.size) (cs:=#[.string (s.extract k (k+1)),.int .i64 k,.bool false]) (t:=259) (fr:=(0,0)) (ai.new _ _ _)
      case yJ=>
       intro u hu;simp at hu
       rcases hu with rfl|rfl|rfl<;>rfl
      case vQ=>unfold maxLen;omega
      case iP=>omega
      case yK=>have:=(ae HB).size;simp;omega
      case hHC=>simp
      case nA=>
       intro g5 aD w5 aC aj aP di;have fU:=(ae HR).alloc (.cells #[.string (s.extract k (k+1)),.int .i64 k,.bool false] 259);have B5:=af (Below.grown ((ae HB).alloc (ae HB).size (.cells #[.string (s.extract k (k+1)),.int .i64 k,.bool false] 259)) aj (by have:=(ae HB).size;simp;omega) (fun k hk=>(fU.lt k hk).1));have O5:=af (show w5.ownsRow w.heap.size 259 3 (.slice (some ⟨g5,0,none⟩) (l.length+1) aD) (l++[(⟨[c],k,false⟩:Tk)]).length (aL (l++[⟨[c],k,false⟩])) from by
        rw [show (l++[(⟨[c],k,false⟩:Tk)]).length=l.length+1 by simp];have e:aL (l++[⟨[c],k,false⟩])=aL l++[.string (s.extract k (k+1)),.int .i64 k,.bool false]:=by
         unfold aL;rw [List.flatMap_append,ae HX];simp [gG]
        rw [e];exact aC)
       clear fU aC aj aP;go_wp2;go_roundw
       case rel=>exact ⟨k+1,l++[⟨[c],k,false⟩],false,by omega,rfl,by go_num,ae B5,ae O5,by simp;omega,by simp,ae Dp,Pf⟩
       case measure=>simp [intOf];omega
  ·have hks:k=s.size:=by omega
   subst hks;have hF:=ae HF;have HD:=af (show jM s=l++[Md s.size] from by
    rw [List.drop_of_length_le (by rw [aG];exact Nat.le_refl _)] at hF;simp only [gK] at hF;unfold jM uy;rw [List.drop_zero,←hF])
   clear hF HF RO HO;go_wp2_with (at_builtin;go_must (refine wpList_append_lies _ rfl _ _ 249 rfl w.heap.size 259 i0 _ 3 32 Tryz.underlying249 (ae HI) (ae fG) (ae fH) (ae fI) rfl (by decide) (.slice la l.length lc) l.length (aL l) rfl ?hownE ⟨wr.heap.size,0,none⟩ 1 1 [.string ⟨#[]⟩,.int .i64 s.size,.bool false] rfl rfl ?WT ?honeE (by decide) ?h63E ?Ta ?WU (wr.heap.size+1) ?hHE ?WV))
   case hownE=>exact (ae HR).alloc _
   case WT=>exact World.news_of_block (B:=wr.heap.size) (cs:=#[.string ⟨#[]⟩,.int .i64 s.size,.bool false]) (t:=259) (fr:=(0,0)) (ai.new _ _ _)
   case honeE=>
    intro u hu;simp at hu
    rcases hu with rfl|rfl|rfl<;>rfl
   case h63E=>unfold maxLen;omega
   case Ta=>omega
   case WU=>have:=(ae HB).size;simp;omega
   case hHE=>simp
   case WV=>
    intro g5 aD w5 aC aj aP di;have fU:=(ae HR).alloc (.cells #[.string ⟨#[]⟩,.int .i64 s.size,.bool false] 259);have B5:=af (Below.grown ((ae HB).alloc (ae HB).size (.cells #[.string ⟨#[]⟩,.int .i64 s.size,.bool false] 259)) aj (by have:=(ae HB).size;simp;omega) (fun k hk=>(fU.lt k hk).1));have O5:=af (show w5.ownsRow w.heap.size 259 3 (.slice (some ⟨g5,0,none⟩) (l.length+1) aD) (jM s).length (aL (jM s)) from by
     rw [ae HD,show (l++[Md s.size]).length=l.length+1 by simp];have e:aL (l++[Md s.size])=aL l++[.string ⟨#[]⟩,.int .i64 s.size,.bool false]:=by
      unfold aL;rw [List.flatMap_append];simp [gG,Md,mk]
     rw [e];exact aC)
    clear fU aC aj aP;go_wp2;go_ret;exact ⟨_,rfl,ae B5,ae O5⟩
def aB (s:aei) (c:UInt8):aei×aei×Bool:=(mk ((bi s).takeWhile (· != c)),mk (((bi s).dropWhile (· != c)).drop 1),(bi s).contains c)
theorem iD {α:Type} (p:α→Bool):∀(l:List α),l.takeWhile p=l.take (l.takeWhile p).length
 | []=>rfl
 |x::l=>by
  rw [List.takeWhile_cons]
  split
  ·rw [List.length_cons,List.take_succ_cons,←iD p l]
  ·rfl
theorem dropWhile_drop {α:Type} (p:α→Bool):∀(l:List α),l.dropWhile p=l.drop (l.takeWhile p).length
 | []=>rfl
 |x::l=>by
  rw [List.takeWhile_cons,List.dropWhile_cons]
  split
  ·rw [List.length_cons,List.drop_succ_cons,←dropWhile_drop p l]
  ·rfl
theorem WX {s:aei} {c:UInt8} {k:Nat} (hk:k<(bi s).length) (hn:∀j,(h:j<k)→(h':j<(bi s).length)→((bi s)[j] != c)=true) (he:(bi s)[k]=c):aB s c=(s.extract 0 k,s.extract (k+1) s.size,true):=by
 have e:=gP (· != c) (bi s) k hn (by omega) (fun h=>by simp [he]);unfold aB;rw [iD,dropWhile_drop,e,extract_mk,extract_mk];simp only [List.drop_zero,Nat.sub_zero,List.drop_drop,Prod.mk.injEq,true_and];refine ⟨?_,?_⟩
 ·rw [List.take_of_length_le (by simp [aG])]
 ·rw [List.contains_iff_mem,←he];exact List.getElem_mem _
theorem Ph {s:aei} {c:UInt8} (hn:∀j,(h:j<s.size)→(h':j<(bi s).length)→((bi s)[j] != c)=true):aB s c=(s,em,false):=by
 have e:=gP (· != c) (bi s) s.size hn (by rw [aG];omega) (fun h=>by rw [aG] at h;omega);unfold aB;rw [iD,dropWhile_drop,e,List.take_of_length_le (by rw [aG];omega),List.drop_of_length_le (i:=s.size) (l:=bi s) (by rw [aG];omega),gV];simp only [List.drop_nil,Prod.mk.injEq,true_and];refine ⟨rfl,?_⟩;rw [Bool.eq_false_iff];intro h;rw [List.contains_iff_mem] at h;obtain ⟨j,hj,e⟩:=List.getElem_of_mem h;have:=hn j (by rw [aG] at hj;exact hj) hj;simp [e] at this
theorem pY (s:aei) (c:UInt8) (ci:Int) (hc:ci=(c.toNat:Int)) (w:World) (hs:s.size≤maxLen):
  Calls Tryz.prog 141 #[.string s,.int .u8 ci] w fun e w'=>e=.returned (.tuple #[.string (aB s c).1,.string (aB s c).2.1,.bool (aB s c).2.2])∧Below w.heap.size w w':=by
 unfold maxLen at hs;have gb:=get_bt s;generalize hR:aB s c=R;obtain ⟨x,y,f⟩:=R;have HR:=af hR;have HC:=af hc;clear hR hc;go_enter Tryz.func141,Tryz.ntmps141;go_wp2_with fail
 go_loop [7] (fun u=>∃k:Nat,k≤s.size∧u=.int .i64 k∧Hid (∀j,(h:j<k)→(h':j<(bi s).length)→((bi s)[j] != c)=true)) (fun u=>s.size-(intOf u).toNat)
 case atStart=>exact ⟨0,by omega,rfl,af (fun j h=>by omega)⟩
 case round=>
  obtain ⟨k,hk,rfl,HN⟩:=hrel
  by_cases hlt:k<s.size
  ·have hkn:(k:Int)<(s.size:Int):=by omega
   have hl:k<(bi s).length:=by rw [aG];exact hlt
   have xD:=xZ s k hl
   by_cases he:(bi s)[k]=c
   ·have hq:(bt s k==ci)=true:=by rw [xD,he,ae HC];simp
    have e2:=WX hl (ae HN) he;rw [ae HR] at e2;simp only [Prod.mk.injEq] at e2;obtain ⟨rfl,rfl,rfl⟩:=e2;clear xD he;go_wp2
    go_quiet (fail)
    go_wp2;go_ret3;exact ⟨rfl,below_drewN (Below.refl _ _) _⟩
   ·have hq:(bt s k==ci)=false:=by
     rw [xD,ae HC,beq_eq_false_iff_ne];intro h;exact he (UInt8.toNat_inj.1 (by omega))
    have Ao:=af (show ∀j,(h:j<k+1)→(h':j<(bi s).length)→((bi s)[j] != c)=true from fun j h h'=>by
     by_cases e:j=k
     ·subst e;simpa using he
     ·exact ae HN j (by omega) h')
    clear xD he;go_wp2
    go_round
    case rel=>exact ⟨k+1,by omega,by go_num,Ao⟩
    case measure=>simp [intOf];omega
  ·have hkn:¬((k:Int)<(s.size:Int)):=by omega
   obtain rfl:k=s.size:=by omega
   have e2:=Ph (ae HN);rw [ae HR] at e2;simp only [Prod.mk.injEq] at e2;obtain ⟨rfl,rfl,rfl⟩:=e2;go_wp2;go_ret3;exact ⟨rfl,Below.refl _ _⟩
def bJ (s:aei):Bool:=decide (0<s.size)&&decide (s.size≤8)&&(mR (bi s)==s.size)
theorem p8 (s:aei) (w:World) (hs:s.size≤maxLen):
  Calls Tryz.prog 93 #[.string s] w fun e w'=>e=.returned (.bool (bJ s))∧w'=w:=by
 unfold bJ;have C:=af (pO s w hs);unfold maxLen at hs
 by_cases h0:0<s.size
 ·by_cases h8:s.size≤8
  ·have h0':(0:Int)<(s.size:Int):=by omega
   have h8':(s.size:Int)≤8:=by omega
   rw [decide_eq_true h0,decide_eq_true h8,Bool.true_and,Bool.true_and];generalize hz:mR (bi s)=z at*;have e:(z==s.size)=(((z:Int))==((s.size:Int))):=by
    rw [Bool.eq_iff_iff,beq_iff_eq,beq_iff_eq];omega
   have E:=af e;clear e hz;go_enter Tryz.func93,Tryz.ntmps93;go_wp2_with (go_at_call 144;refine (ae C).mono ?_;rintro e w' ⟨rfl,rfl⟩);go_ret;exact ⟨by rw [ae E];rfl,rfl⟩
  ·have h8':¬((s.size:Int)≤8):=by omega
   have h0':(0:Int)<(s.size:Int):=by omega
   rw [decide_eq_false h8,Bool.and_false,Bool.false_and];go_enter Tryz.func93,Tryz.ntmps93;go_wp2;go_ret;exact ⟨rfl,rfl⟩
 ·have h0':¬((0:Int)<(s.size:Int)):=by omega
  rw [decide_eq_false h0,Bool.false_and,Bool.false_and];go_enter Tryz.func93,Tryz.ntmps93;go_wp2;go_ret;exact ⟨rfl,rfl⟩
theorem Pi {s:aei} (h0:0<s.size) (h8:s.size≤8) (h:∀j,j<s.size→(letter (bt s j)||(digit (bt s j)&&decide (0<j)))=true):bJ s=true:=by
 have e:=uu s s.size h0 (by have:=h 0 h0;simpa using this) (by omega) (by omega) (fun j h1 h2=>by have:=h j h2;revert this;cases letter (bt s j)<;>cases digit (bt s j)<;>simp) (fun h=>by omega);unfold bJ;simp [h0,h8,e]
theorem Pj {s:aei} {k:Nat} (hk:k<s.size) (h:∀j,j<k→(letter (bt s j)||(digit (bt s j)&&decide (0<j)))=true) (hn:(letter (bt s k)||(digit (bt s k)&&decide (0<k)))=false):bJ s=false:=by
 unfold bJ
 by_cases h0:k=0
 ·subst h0;rw [x8 s hk (by simpa using hn)];have:(0==s.size)=false:=by rw [beq_eq_false_iff_ne];omega
  rw [this,Bool.and_false]
 ·have e:=uu s k (by omega) (by have:=h 0 (by omega);simpa using this) (by omega) (by omega) (fun j h1 h2=>by have:=h j h2;revert this;cases letter (bt s j)<;>cases digit (bt s j)<;>simp) (fun _=>by rw [decide_eq_true (by omega),Bool.and_true] at hn;exact hn);have:(k==s.size)=false:=by rw [beq_eq_false_iff_ne];omega
  rw [e,this,Bool.and_false]
theorem mh (s:aei) (w:World):Calls Tryz.prog 195 #[.string s] w fun e w'=>e=.returned (.bool (bJ s))∧w'=w:=by
 by_cases h0:0<s.size
 ·by_cases h8:s.size≤8
  ·have h0':¬((s.size:Int)<1):=by omega
   have h8':¬((8:Int)<(s.size:Int)):=by omega
   have gb:=get_bt s;generalize hR:bJ s=R;have HR:=af hR;clear hR;go_enter Tryz.func195,Tryz.ntmps195;go_wp2_with fail
   go_loop [3] (fun u=>∃k:Nat,k≤s.size∧u=.int .i64 k∧Hid (∀j,j<k→(letter (bt s j)||(digit (bt s j)&&decide (0<j)))=true)) (fun u=>s.size-(intOf u).toNat)
   case atStart=>exact ⟨0,by omega,rfl,af (fun j h=>by omega)⟩
   case round=>
    obtain ⟨k,hk,rfl,HN⟩:=hrel
    by_cases hlt:k<s.size
    ·have hkn:(k:Int)<(s.size:Int):=by omega
     cases hv:(letter (bt s k)||(digit (bt s k)&&decide (0<k)))
     ·have hF:=Pj hlt (ae HN) hv;rw [ae HR] at hF;subst hF;simp only [Bool.or_eq_false_iff,Bool.and_eq_false_iff,decide_eq_false_iff_not] at hv;obtain ⟨v1,v2⟩:=hv
      cases hd:digit (bt s k)
      ·clear v2;go_wp2_with (first|(go_at_call 185;refine (ed _ _).mono ?_;rintro e w' ⟨rfl,rfl⟩)|(go_at_call 186;refine (fJ _ _).mono ?_;rintro e w' ⟨rfl,rfl⟩));go_ret;exact ⟨rfl,rfl⟩
      ·have WY:k=0:=by
        rcases v2 with v|v
        ·rw [hd] at v;cases v
        ·omega
       have hk0':((k:Int)==0)=true:=by rw [WY];rfl
       clear v2 WY;go_wp2_with (first|(go_at_call 185;refine (ed _ _).mono ?_;rintro e w' ⟨rfl,rfl⟩)|(go_at_call 186;refine (fJ _ _).mono ?_;rintro e w' ⟨rfl,rfl⟩));go_ret;exact ⟨rfl,rfl⟩
     ·have Ao:=af (show ∀j,j<k+1→(letter (bt s j)||(digit (bt s j)&&decide (0<j)))=true from fun j h=>by
       by_cases e:j=k
       ·subst e;exact hv
       ·exact ae HN j (by omega))
      cases hl:letter (bt s k)
      ·rw [hl,Bool.false_or,Bool.and_eq_true,decide_eq_true_eq] at hv;obtain ⟨v1,v2⟩:=hv;have hk0':((k:Int)==0)=false:=by rw [beq_eq_false_iff_ne];omega
       go_wp2_with (first|(go_at_call 185;refine (ed _ _).mono ?_;rintro e w' ⟨rfl,rfl⟩)|(go_at_call 186;refine (fJ _ _).mono ?_;rintro e w' ⟨rfl,rfl⟩))
       go_round
       case rel=>exact ⟨k+1,by omega,by go_num,Ao⟩
       case measure=>simp [intOf];omega
      ·clear hv;go_wp2_with (first|(go_at_call 185;refine (ed _ _).mono ?_;rintro e w' ⟨rfl,rfl⟩)|(go_at_call 186;refine (fJ _ _).mono ?_;rintro e w' ⟨rfl,rfl⟩))
       go_round
       case rel=>exact ⟨k+1,by omega,by go_num,Ao⟩
       case measure=>simp [intOf];omega
    ·have hkn:¬((k:Int)<(s.size:Int)):=by omega
     obtain rfl:k=s.size:=by omega
     have hF:=Pi h0 h8 (ae HN);rw [ae HR] at hF;subst hF;go_wp2;go_ret;exact ⟨rfl,rfl⟩
  ·have h8':(8:Int)<(s.size:Int):=by omega
   have h0':¬((s.size:Int)<1):=by omega
   have e:bJ s=false:=by unfold bJ;rw [decide_eq_false h8];simp
   rw [e];go_enter Tryz.func195,Tryz.ntmps195;go_wp2;go_ret;exact ⟨rfl,rfl⟩
 ·have h0':(s.size:Int)<1:=by omega
  have e:bJ s=false:=by unfold bJ;rw [decide_eq_false h0];simp
  rw [e];go_enter Tryz.func195,Tryz.ntmps195;go_wp2;go_ret;exact ⟨rfl,rfl⟩
theorem kT (s:aei) (c:UInt8):(aB s c).1.size≤s.size∧(aB s c).2.1.size≤s.size:=by
 unfold aB;simp only [KO];have h1:((bi s).takeWhile (· != c)).length≤(bi s).length:=(List.takeWhile_prefix _).length_le;have h2:((bi s).dropWhile (· != c)).length≤(bi s).length:=(List.dropWhile_suffix _).length_le;rw [aG] at h1 h2;simp only [List.length_drop];omega
def kE (s:aei):aei×aei×Bool:=((aB s 58).1,(aB s 58).2.1,(aB s 58).2.2&&bJ (aB s 58).1&&bJ (aB s 58).2.1)
theorem yL (s:aei) (w:World) (hs:s.size≤maxLen):
  Calls Tryz.prog 136 #[.string s] w fun e w'=>e=.returned (.tuple #[.string (kE s).1,.string (kE s).2.1,.bool (kE s).2.2])∧Below w.heap.size w w':=by
 unfold kE;have C1:=af (pY s 58 58 rfl w hs);generalize aB s 58=X at*;obtain ⟨a,b,ok⟩:=X;have Cp:=af (fun w=>mh a w);have Cq:=af (fun w=>mh b w);simp only at C1 Cp Cq ⊢;generalize bJ a=p at*;generalize bJ b=q at*;go_enter Tryz.func136,Tryz.ntmps136;go_wp2_with fail;refine (ae C1).mono ?_;rintro e w1 ⟨rfl,hb1⟩;have B1:=af hb1;clear hb1 C1;go_wp2_with fail;refine (ae Cp _).mono ?_;rintro e w2 ⟨rfl,rfl⟩;go_wp2_with fail;refine (ae Cq _).mono ?_;rintro e w3 ⟨rfl,rfl⟩
 cases ok
 ·go_wp2;go_ret3;exact ⟨rfl,ae B1⟩
 ·cases p
  ·go_wp2;go_ret3;exact ⟨rfl,ae B1⟩
  ·go_wp2;go_ret3;exact ⟨rfl,ae B1⟩
structure Tu where
 kind:aei
 id:aei
 rel:aei
 sub:aei
 who:aei
 of:aei
def Tu.cells (t:Tu) (s:aei):Array Value:=#[.string t.kind,.string t.id,.string t.rel,.string t.sub,.string t.who,.string t.of,.string s]
def jR:aei:=⟨#[42]⟩
def uJ (who:aei) (all:Bool):aei×aei×Bool:=
 if !(kE who).2.2&& !all then ((aB who 58).1,jR,(aB who 58).2.2&&bJ (aB who 58).1&&eqs (aB who 58).2.1 jR) else kE who
def bE (s:aei):Tu×Bool:=
 (⟨(kE (aB (aB s 64).1 35).1).1,(kE (aB (aB s 64).1 35).1).2.1,(aB (aB s 64).1 35).2.1,(uJ (aB (aB s 64).2.1 35).1 (aB (aB s 64).2.1 35).2.2).1,(uJ (aB (aB s 64).2.1 35).1 (aB (aB s 64).2.1 35).2.2).2.1,(aB (aB s 64).2.1 35).2.1⟩,
  (aB s 64).2.2&&(aB (aB s 64).1 35).2.2&&(kE (aB (aB s 64).1 35).1).2.2&&bJ (aB (aB s 64).1 35).2.1&&(uJ (aB (aB s 64).2.1 35).1 (aB (aB s 64).2.1 35).2.2).2.2&&(!(aB (aB s 64).2.1 35).2.2||bJ (aB (aB s 64).2.1 35).2.1))
def lu (ts:List Ty) (y:aei) (g:Gr):Option Ty:=if g.reach=0 then (match dn ts g.ty with
 |none=>none
 |some u=>if (cu u y).isSome then some u else none) else none
def tk (ts:List Ty) (y:aei) (k:Nat) (gs:List Gr):List Ty:=(gs.take k).filterMap (lu ts y)
def uK (ts:List Ty) (t:Ty) (x y:aei):List Ty:=match cu t x with
 |none=>[]
 |some r=>(bH r.body).filterMap (lu ts y)
theorem Tc {ts:List Ty} {y:aei} {k:Nat} {gs:List Gr} {g:Gr} (h:gs[k]? =some g):tk ts y (k+1) gs=tk ts y k gs++(lu ts y g).toList:=by
 have hlt:k<gs.length:=by
  rcases Nat.lt_or_ge k gs.length with h'|h'
  ·exact h'
  ·rw [List.getElem?_eq_none h'] at h;cases h
 rw [aeh hlt] at h;simp only [Option.some.injEq] at h;unfold tk;rw [List.take_succ_eq_append_getElem hlt,List.filterMap_append,h]
 cases hq:lu ts y g<;>simp [hq]
theorem tk_le (ts:List Ty) (y:aei) (k:Nat) (gs:List Gr):(tk ts y k gs).length≤k:=by
 unfold tk;have:=List.length_filterMap_le (lu ts y) (gs.take k);rw [List.length_take] at this;omega
theorem Mw (b tp p1 p2:Nat) (n1 n2:aei) (sv:Value) (ts:List Ty) (tl:List (Ty×Value)) (t:Ty) (tv:Value) (rl:List (Rl×Value)) (w:World) (h:MC b w sv ts tl) (ht:RC b w tv t.rels rl) (hf:cu t n1=none):
  Calls Tryz.prog 223 #[.agg #[sv],.agg #[.int .i64 t.place,.string t.name,tv],.agg #[.int .i64 tp,.int .i64 p1,.string n1,.int .i64 p2,.string n2]] w fun e' w'=>e'=.returned (.slice none 0 0)∧Below w.heap.size w w':=by
 obtain ⟨ma,mn,mc,rfl⟩:=h.form;obtain ⟨va,vn,vc,rfl⟩:=ht.form;have W0:Below w.heap.size w (((w.alloc (.cells #[.slice ma mn mc] 75)).alloc (.cells #[.int .i64 t.place,.string t.name,.slice va vn vc] 110)).alloc (.cells #[.int .i64 tp,.int .i64 p1,.string n1,.int .i64 p2,.string n2] 240)):=(((Below.refl _ _).alloc aeg _).alloc (by simp) _).alloc (by simp;omega) _;have C:=af (l8 b t.place t.name _ t rl n1 _ (ht.below W0) hf);have kg:=af W0;clear W0 h ht hf;go_enter Tryz.func223,Tryz.ntmps223;go_wp2_with fail;refine (ae C).mono ?_;rintro e w1 ⟨rfl,hb1⟩;have B1:=af ((ae kg).trans (hb1.mono (ae kg).size));have sz:=(ae B1).size;clear hb1;unfold bn;go_wp2;go_ret;exact ⟨rfl,(by with_reducible repeat (first|exact ae B1|refine Below.drew ?_|(refine Below.setCell ?_ ?_ _;rotate_left;exact (by first|omega|(simp;omega)|simp))|(refine Below.alloc ?_ ?_ _;rotate_left;exact (by first|omega|(simp;omega)|simp))))⟩
theorem Bo (b tp p1 p2:Nat) (n1 n2:aei) (sv:Value) (ts:List Ty) (tl:List (Ty×Value)) (t:Ty) (tv:Value) (rl:List (Rl×Value)) (w:World) (h:MC b w sv ts tl) (ht:RC b w tv t.rels rl) (r:Rl) (hf:cu t n1=some r):
  Calls Tryz.prog 223 #[.agg #[sv],.agg #[.int .i64 t.place,.string t.name,tv],.agg #[.int .i64 tp,.int .i64 p1,.string n1,.int .i64 p2,.string n2]] w fun e' w'=>∃(Ey:Value) (l3:List E3),e'=.returned Ey∧Below w.heap.size w w'∧w'.ownsRow w.heap.size 110 3 Ey l3.length (l3.flatMap c3)∧l3.map (fun e=>e.2.1)=((bH r.body).filterMap (lu ts n2)).map Ty.name∧∀e∈l3,∃a n c,e.2.2=Value.slice a n c:=by
 obtain ⟨i0,hi,hz0,hz1,hz2⟩:=info_parts Tryz.info110;have HI:=af hi;have fG:=af hz0;have fH:=af hz1;have fI:=af hz2;clear hi hz0 hz1 hz2;obtain ⟨ma,mn,mc,rfl⟩:=h.form;obtain ⟨va,vn,vc,rfl⟩:=ht.form;have W0:Below w.heap.size w (((w.alloc (.cells #[.slice ma mn mc] 75)).alloc (.cells #[.int .i64 t.place,.string t.name,.slice va vn vc] 110)).alloc (.cells #[.int .i64 tp,.int .i64 p1,.string n1,.int .i64 p2,.string n2] 240)):=(((Below.refl _ _).alloc aeg _).alloc (by simp) _).alloc (by simp;omega) _;obtain ⟨ra,rv,dF,hmem,hcall⟩:=nR b t.place t.name _ t rl n1 _ (ht.below W0) r hf;have okp:=ht.okp r hmem;have okg:=ht.okg r hmem;have wf:=ht.wf r hmem;have C:=af hcall;have WZ:=af dF;have xJ:=af (h.below W0);have MB:=af (((ai.new w #[.slice ma mn mc] 75).alloc (.cells #[.int .i64 t.place,.string t.name,.slice va vn vc] 110)).alloc (.cells #[.int .i64 tp,.int .i64 p1,.string n1,.int .i64 p2,.string n2] 240));have TB:=af (ai.new' ((w.alloc (.cells #[.slice ma mn mc] 75)).alloc (.cells #[.int .i64 t.place,.string t.name,.slice va vn vc] 110)) #[.int .i64 tp,.int .i64 p1,.string n1,.int .i64 p2,.string n2] 240 (w.heap.size+2) (by simp));have kg:=af W0;have blt:=h.blt;have WM:=af wf;clear W0 h ht hf hcall dF hmem wf;go_enter Tryz.func223,Tryz.ntmps223;go_wp2_with fail;refine (ae C).mono ?_;rintro e w1 ⟨rfl,hb1⟩;have b1:=hb1.alloc hb1.size (.cells #[.int .i64 r.place,.string r.name,.iface ra rv] 159);have B1:=af ((ae kg).trans (b1.mono (ae kg).size));have MB1:=af ((ae MB).below b1);have TB1:=af ((ae TB).below b1);have HM1:=af ((ae xJ).below b1);have RP1:=af ((ae WZ).but (But.of_below b1));have blt1:=(ae HM1).blt;clear hb1 b1 C;go_wp2_with fail;refine (sP r.place r.name b r.body _ _ blt1 (ae RP1) okp okg (ae WM)).mono ?_;rintro e w3 ⟨gv,rfl,hb3,hrow⟩;obtain ⟨ga,gc,rfl⟩:=au hrow;have B3:=af ((ae B1).trans (hb3.mono (ae B1).size));have MB3:=af ((ae MB1).below hb3);have TB3:=af ((ae TB1).below hb3);have HM3:=af ((ae HM1).below hb3);have Pk:=af hrow;have xH:=(ae B3).size;clear hb3 hrow;go_wp2_with fail
 go_loopw [9,29] (fun u9 u29 wr=>∃(k:Nat) (Ey:Value) (l3:List E3),k≤(bH r.body).length∧u29=.int .i64 k∧u9=Ey∧Below w3.heap.size w3 wr∧wr.ownsRow w3.heap.size 110 3 Ey l3.length (l3.flatMap c3)∧Hid (l3.map (fun e=>e.2.1)=(tk ts n2 k (bH r.body)).map Ty.name∧∀e∈l3,∃a n c,e.2.2=Value.slice a n c)) (fun _ u _=>(bH r.body).length-(intOf u).toNat)
 case atStart=>exact ⟨0,_,[],by omega,rfl,rfl,Below.refl _ _,World.ownsRow_nil _ _ _ _,af ⟨rfl,by simp⟩⟩
 case round=>
  obtain ⟨k,Ey,l3,hk,rfl,hu9,hb,ho,HQ⟩:=hrel;have Bf:l3.length≤k:=by
   have:=congrArg List.length (ae HQ).1;rw [List.length_map,List.length_map] at this;have:=tk_le ts n2 k (bH r.body);omega
  obtain ⟨sa,sn,sc,rfl⟩:∃a n c,Ey=.slice a n c:=by
   obtain ⟨a,c,e⟩:=au ho;exact ⟨a,_,c,e⟩
  subst hu9;have HB:=af hb;have HO:=af ho;have Dn:=hb.size
  by_cases hlt:k<(bH r.body).length
  ·have hkn:(k:Int)<((bH r.body).length:Int):=by omega
   obtain ⟨q,c,e1,k0,k1,k2,k3,k4⟩:=WN.cell (ak (w':=wr) (ae Pk) (fun g cs f _ hh=>hb.block g (lt_of_some hh))) k (bH r.body)[k] (aeh hlt);simp only [Value.slice.injEq] at e1;obtain ⟨rfl,_,rfl⟩:=e1;have hg':(bH r.body)[k]? =some (bH r.body)[k]:=aeh hlt;generalize (bH r.body)[k]=g at*;have HST:=af (Tc (ts:=ts) (y:=n2) hg');have bx:=hb.alloc Dn (.cells #[.int .i64 g.tp,.string g.ty,.int .i64 g.reach,.int .i64 g.rp,.string g.rel] 207);have ny:=af bx;have HM:=af ((ae HM3).below bx);have Td:=af ((ae MB3).below bx);have TBX:=af ((ae TB3).below bx);have GX:=af (ai.new wr #[.int .i64 g.tp,.string g.ty,.int .i64 g.reach,.int .i64 g.rp,.string g.rel] 207);have OX:=af ((ae HO).alloc (.cells #[.int .i64 g.tp,.string g.ty,.int .i64 g.reach,.int .i64 g.rp,.string g.rel] 207));have m0:wr.cell? ⟨w.heap.size,0,none⟩=some (.slice ma mn mc):=((ae MB3).below hb).cell rfl;have ml:=((ae MB3).below hb).lt;clear hb ho bx hg'
   by_cases h0:g.reach=0
   ·have h0':((g.reach:Int) != 0)=false:=by rw [h0];rfl
    cases hf:dn ts g.ty with
    |none=>
     have ht1:lu ts n2 g=none:=by simp [lu,h0,hf]
     have C:=af (yG b _ ts tl g.ty _ (ae HM) hf);clear hf h0;go_wp2_with fail;refine (ae C).mono ?_;rintro e w4 ⟨rfl,hb4⟩;have B4:=af ((ae ny).trans (hb4.mono (ae ny).size));have oD:=(ae TBX).below hb4;have TB4':=af (oD.alloc (.cells #[.int .i64 0,.string ⟨#[]⟩,.slice none 0 0] 110));obtain ⟨v0,v1,v2,v3,v4⟩:=oD.five;have vl:=oD.lt;have O4:=af ((ak (w':=w4) (ae OX) (fun g cs f _ hh=>hb4.block g (lt_of_some hh))).alloc (.cells #[.int .i64 0,.string ⟨#[]⟩,.slice none 0 0] 110));have nN:=(ae B4).size;have VM:=af ((ae B4).alloc nN (.cells #[.int .i64 0,.string ⟨#[]⟩,.slice none 0 0] 110));clear hb4 oD;have C:=af (l8 b 0 ⟨#[]⟩ (.slice none 0 0) ⟨em,0,[]⟩ [] n2 (w4.alloc (.cells #[.int .i64 0,.string ⟨#[]⟩,.slice none 0 0] 110)) ⟨rfl,World.ownsRow_nil _ _ _ _,by simp,by simp,by simp,by simp,by simp⟩ rfl);unfold bn;go_wp2_with fail;refine (ae C).mono ?_;rintro e w5 ⟨rfl,bV⟩;have B5:=af ((ae VM).trans (bV.mono (ae VM).size));have O5:=af (ak (w':=w5) (ae O4) (fun g cs f _ hh=>bV.block g (lt_of_some hh)));have Ld:=(ae B5).size;clear bV;unfold bn;go_wp2;go_roundw
     case rel=>exact ⟨k+1,.slice sa sn sc,l3,by omega,by go_num,rfl,(ae B5).alloc Ld _,(ae O5).alloc _,af (by rw [ae HST,ht1];simpa using ae HQ)⟩
     case measure=>simp [intOf];omega
    |some u=>
     obtain ⟨ua,un,uc,rl2,hrc,hcall⟩:=vO b _ ts tl g.ty _ (ae HM) u hf;have C:=af hcall;have RCH:=af hrc;clear hcall hrc
     cases hq:cu u n2 with
     |none=>
      have ht1:lu ts n2 g=none:=by simp [lu,h0,hf,hq]
      have qN:=af hq;clear hf h0 hq;go_wp2_with fail;refine (ae C).mono ?_;rintro e w4 ⟨rfl,hb4⟩;have RC4:=af (((ae RCH).below hb4).below ((Below.refl w4.heap.size w4).alloc aeg (.cells #[.int .i64 u.place,.string u.name,.slice ua un uc] 110)));have B4:=af ((ae ny).trans (hb4.mono (ae ny).size));have oD:=(ae TBX).below hb4;obtain ⟨v0,v1,v2,v3,v4⟩:=oD.five;have vl:=oD.lt;have O4:=af ((ak (w':=w4) (ae OX) (fun g cs f _ hh=>hb4.block g (lt_of_some hh))).alloc (.cells #[.int .i64 u.place,.string u.name,.slice ua un uc] 110));have nN:=(ae B4).size;have VM:=af ((ae B4).alloc nN (.cells #[.int .i64 u.place,.string u.name,.slice ua un uc] 110));clear hb4 oD;have C:=af (l8 b u.place u.name _ u rl2 n2 _ (ae RC4) (ae qN));go_wp2_with fail;refine (ae C).mono ?_;rintro e w5 ⟨rfl,bV⟩;have B5:=af ((ae VM).trans (bV.mono (ae VM).size));have O5:=af (ak (w':=w5) (ae O4) (fun g cs f _ hh=>bV.block g (lt_of_some hh)));have Ld:=(ae B5).size;clear bV;unfold bn;go_wp2;go_roundw
      case rel=>exact ⟨k+1,.slice sa sn sc,l3,by omega,by go_num,rfl,(ae B5).alloc Ld _,(ae O5).alloc _,af (by rw [ae HST,ht1];simpa using ae HQ)⟩
      case measure=>simp [intOf];omega
     |some r2=>
      have ht1:lu ts n2 g=some u:=by simp [lu,h0,hf,hq]
      have qN:=af hq;clear hf h0 hq;go_wp2_with fail;refine (ae C).mono ?_;rintro e w4 ⟨rfl,hb4⟩;have RC4:=af (((ae RCH).below hb4).below ((Below.refl w4.heap.size w4).alloc aeg (.cells #[.int .i64 u.place,.string u.name,.slice ua un uc] 110)));have U4:=af (ai.new w4 #[.int .i64 u.place,.string u.name,.slice ua un uc] 110);have B4:=af ((ae ny).trans (hb4.mono (ae ny).size));have oD:=(ae TBX).below hb4;obtain ⟨v0,v1,v2,v3,v4⟩:=oD.five;have vl:=oD.lt;have O4:=af ((ak (w':=w4) (ae OX) (fun g cs f _ hh=>hb4.block g (lt_of_some hh))).alloc (.cells #[.int .i64 u.place,.string u.name,.slice ua un uc] 110));have nN:=(ae B4).size;have VM:=af ((ae B4).alloc nN (.cells #[.int .i64 u.place,.string u.name,.slice ua un uc] 110));clear hb4 oD;obtain ⟨xa,xv,_,_,hcall⟩:=nR b u.place u.name _ u rl2 n2 _ (ae RC4) r2 (ae qN);have C:=af hcall;clear hcall;go_wp2_with fail;refine (ae C).mono ?_;rintro e w5 ⟨rfl,bV⟩;have U5:=(ae U4).below bV;obtain ⟨u0,u1,u2⟩:=U5.three;have ul:=U5.lt;clear U5;have B5:=af ((ae VM).trans (bV.mono (ae VM).size));have O5:=af (ak (w':=w5) (ae O4) (fun g cs f _ hh=>bV.block g (lt_of_some hh)));have Ld:=(ae B5).size;clear bV;go_wp2_with (at_builtin;go_must (refine wpList_append_lies _ rfl _ _ 73 rfl w3.heap.size 110 i0 _ 3 48 Tryz.underlying73 (ae HI) (ae fG) (ae fH) (ae fI) rfl (by decide) (.slice sa sn sc) l3.length (l3.flatMap c3) rfl ?hown ⟨w5.heap.size+1,0,none⟩ 1 1 (c3 (u.place,u.name,.slice ua un uc)) rfl rfl ?hnews ?hone (by decide) ?h63 ?hbytes ?hbase (w5.heap.size+2) ?hH ?hrest))
      case hown=>exact ((ae O5).alloc _).alloc _
      case hnews=>exact World.news_of_block (B:=w5.heap.size+1) (cs:=#[.int .i64 u.place,.string u.name,.slice ua un uc]) (t:=110) (fr:=(0,0)) (ai.new' (w5.alloc _) _ _ _ (by simp))
      case hone=>
       intro z hz;simp [c3] at hz
       rcases hz with rfl|rfl|rfl<;>rfl
      case h63=>unfold maxLen;omega
      case hbytes=>omega
      case hbase=>simp;omega
      case hH=>simp
      case hrest=>
       intro g6 jY w6 iE dw nV Dq;have Mx:=((ae O5).alloc (.cells #[.int .i64 r2.place,.string r2.name,.iface xa xv] 159)).alloc (.cells #[.int .i64 u.place,.string u.name,.slice ua un uc] 110);have B6:=af (Below.grown (((ae B5).alloc Ld (.cells #[.int .i64 r2.place,.string r2.name,.iface xa xv] 159)).alloc (by simp;omega) (.cells #[.int .i64 u.place,.string u.name,.slice ua un uc] 110)) dw (by simp;omega) (fun k hk=>(Mx.lt k hk).1));have O6:=af iE;clear iE dw nV Mx;go_wp2;go_roundw
       case rel=>exact ⟨k+1,.slice (some ⟨g6,0,none⟩) (l3.length+1) jY,l3++[(u.place,u.name,.slice ua un uc)],by omega,by go_num,rfl,ae B6,by rw [List.length_append,List.flatMap_append];exact ae O6,af ⟨by rw [ae HST,ht1,List.map_append,List.map_append,(ae HQ).1];rfl,fun e he=>by rw [List.mem_append,List.mem_singleton] at he;rcases he with he|rfl;exact (ae HQ).2 e he;exact ⟨ua,un,uc,rfl⟩⟩⟩
       case measure=>simp [intOf];omega
   ·have h0':((g.reach:Int) != 0)=true:=by rw [bne_iff_ne];omega
    have ht1:lu ts n2 g=none:=by simp [lu,h0]
    clear h0;go_wp2;go_roundw
    case rel=>exact ⟨k+1,.slice sa sn sc,l3,by omega,by go_num,rfl,ae ny,ae OX,af (by rw [ae HST,ht1];simpa using ae HQ)⟩
    case measure=>simp [intOf];omega
  ·have hkn:¬((k:Int)<((bH r.body).length:Int)):=by omega
   have hall:tk ts n2 k (bH r.body)=(bH r.body).filterMap (lu ts n2):=by
    unfold tk;rw [List.take_of_length_le (by omega)]
   rw [hall] at HQ;clear hb ho hall;go_wp2;go_ret;exact ⟨.slice sa sn sc,rfl,(ae B3).trans ((ae HB).mono xH),l3,aO (ae HO) xH,(ae HQ).1,fun x1 x2 x3 hx=>(ae HQ).2 (x1,x2,x3) hx⟩
def Jh (ts:List Ty) (t:Ty) (n1:aei) (p1:Nat) (n2:aei) (p2:Nat):Option Nat:=match cu t n1 with
 |none=>some p1
 |some r=>if ((bH r.body).filterMap (lu ts n2)).length=0 then some p2 else none
theorem Dr (b tp p1 p2:Nat) (n1 n2:aei) (sv:Value) (ts:List Ty) (tl:List (Ty×Value)) (t:Ty) (tv:Value) (rl:List (Rl×Value)) (w:World) (h:MC b w sv ts tl) (ht:RC b w tv t.rels rl):
  Calls Tryz.prog 175 #[.agg #[sv],.agg #[.int .i64 t.place,.string t.name,tv],.agg #[.int .i64 tp,.int .i64 p1,.string n1,.int .i64 p2,.string n2]] w fun e' w'=>e'=.returned (iy 5 (Jh ts t n1 p1 n2 p2))∧Below w.heap.size w w':=by
 obtain ⟨ma,mn,mc,rfl⟩:=h.form;obtain ⟨va,vn,vc,rfl⟩:=ht.form;have W0:Below w.heap.size w (((w.alloc (.cells #[.slice ma mn mc] 75)).alloc (.cells #[.int .i64 t.place,.string t.name,.slice va vn vc] 110)).alloc (.cells #[.int .i64 tp,.int .i64 p1,.string n1,.int .i64 p2,.string n2] 240)):=(((Below.refl _ _).alloc aeg _).alloc (by simp) _).alloc (by simp;omega) _;have xJ:=af (h.below W0);have uL:=af (ht.below W0);have MB:=af (((ai.new w #[.slice ma mn mc] 75).alloc (.cells #[.int .i64 t.place,.string t.name,.slice va vn vc] 110)).alloc (.cells #[.int .i64 tp,.int .i64 p1,.string n1,.int .i64 p2,.string n2] 240));have YB:=af ((ai.new' (w.alloc (.cells #[.slice ma mn mc] 75)) #[.int .i64 t.place,.string t.name,.slice va vn vc] 110 (w.heap.size+1) (by simp)).alloc (.cells #[.int .i64 tp,.int .i64 p1,.string n1,.int .i64 p2,.string n2] 240));have TB:=af (ai.new' ((w.alloc (.cells #[.slice ma mn mc] 75)).alloc (.cells #[.int .i64 t.place,.string t.name,.slice va vn vc] 110)) #[.int .i64 tp,.int .i64 p1,.string n1,.int .i64 p2,.string n2] 240 (w.heap.size+2) (by simp));have kg:=af W0;generalize hR:Jh ts t n1 p1 n2 p2=R;unfold Jh at hR;clear W0 h ht
 cases hf:cu t n1 with
 |none=>
  have C:=af (l8 b t.place t.name _ t rl n1 _ (ae uL) hf);rw [hf] at hR;have HR:=af hR;clear hR hf;go_enter Tryz.func175,Tryz.ntmps175;go_wp2_with fail;refine (ae C).mono ?_;rintro e w1 ⟨rfl,hb1⟩;have B1:=af ((ae kg).trans (hb1.mono (ae kg).size));obtain ⟨v0,v1,v2,v3,v4⟩:=((ae TB).below hb1).five;have vl:=((ae TB).below hb1).lt;have sz:=(ae B1).size;clear hb1;unfold bn;go_wp2_with (go_at_call 73;refine (jP _ 5 _).mono ?_;rintro e w3 ⟨rfl,rfl⟩);go_ret;rw [←ae HR];exact ⟨rfl,(by with_reducible repeat (first|exact ae B1|refine Below.drew ?_|(refine Below.setCell ?_ ?_ _;rotate_left;exact (by first|omega|(simp;omega)|simp))|(refine Below.alloc ?_ ?_ _;rotate_left;exact (by first|omega|(simp;omega)|simp))))⟩
 |some r=>
  obtain ⟨xa,xv,_,_,hcall⟩:=nR b t.place t.name _ t rl n1 _ (ae uL) r hf;have C:=af hcall;have HF:=af hf;rw [hf] at hR;have HR:=af hR;clear hR hf hcall;go_enter Tryz.func175,Tryz.ntmps175;go_wp2_with fail;refine (ae C).mono ?_;rintro e w1 ⟨rfl,hb1⟩;have b1:=hb1.alloc hb1.size (.cells #[.int .i64 r.place,.string r.name,.iface xa xv] 159);have B1:=af ((ae kg).trans (b1.mono (ae kg).size));have M1:=af ((ae xJ).below b1);have T1:=af ((ae uL).below b1);have TB1:=af ((ae TB).below b1);obtain ⟨v0,v1,v2,v3,v4⟩:=((ae TB).below hb1).five;have vl:=((ae TB).below hb1).lt;obtain ⟨y0,y1,y2⟩:=((ae YB).below hb1).three;have yl:=((ae YB).below hb1).lt;have m0:w1.cell? ⟨w.heap.size,0,none⟩=some (.slice ma mn mc):=((ae MB).below hb1).cell rfl;have sz:=(ae B1).size;have ml:=((ae MB).below hb1).lt;clear hb1 b1 C;go_wp2_with fail;refine (Bo b tp p1 p2 n1 n2 _ ts tl t _ rl _ (ae M1) (ae T1) r (ae HF)).mono ?_;rintro e w2 ⟨IK,l3,rfl,hb2,ho,Bf,_⟩;have hlen:l3.length=((bH r.body).filterMap (lu ts n2)).length:=by
   have:=congrArg List.length Bf
   rwa [List.length_map,List.length_map] at this
  obtain ⟨oa,oc,rfl⟩:=au ho;have B2:=af ((ae B1).trans (hb2.mono (ae B1).size));obtain ⟨z0,z1,z2,z3,z4⟩:=((ae TB1).below hb2).five;have zl:=((ae TB1).below hb2).lt;have nQ:=(ae B2).size;have hR:=ae HR;rw [←hlen] at hR;generalize l3.length=ln at*;clear hb2 ho Bf hlen v0 v1 v2 v3 v4 y0 y1 y2 m0
  by_cases h0:ln=0
  ·have h0':((ln:Int)==0)=true:=by rw [h0];rfl
   rw [if_pos h0] at hR;have dS:=af hR;clear hR h0;go_wp2_with (go_at_call 73;refine (jP _ 5 _).mono ?_;rintro e w3 ⟨rfl,rfl⟩);go_ret;rw [←ae dS];exact ⟨rfl,(by with_reducible repeat (first|exact ae B2|refine Below.drew ?_|(refine Below.setCell ?_ ?_ _;rotate_left;exact (by first|omega|(simp;omega)|simp))|(refine Below.alloc ?_ ?_ _;rotate_left;exact (by first|omega|(simp;omega)|simp))))⟩
  ·have h0':((ln:Int)==0)=false:=by rw [beq_eq_false_iff_ne];omega
   rw [if_neg h0] at hR;have dS:=af hR;clear hR h0;go_wp2;go_ret;rw [←ae dS];exact ⟨rfl,(by with_reducible repeat (first|exact ae B2|refine Below.drew ?_|(refine Below.setCell ?_ ?_ _;rotate_left;exact (by first|omega|(simp;omega)|simp))|(refine Below.alloc ?_ ?_ _;rotate_left;exact (by first|omega|(simp;omega)|simp))))⟩
def ko (ts:List Ty) (t:Ty) (p:Ex):Option Nat:=match p.l with
 |some _=>none
 |none=>if p.nd.kind=0 then rT ts p.nd.gs
  else if p.nd.kind=1 then (match cu t p.nd.n1 with
   |none=>some p.nd.place
   |some _=>none)
  else Jh ts t p.nd.n1 p.nd.p1 p.nd.n2 p.nd.p2
def kF (ts:List Ty) (t:Ty) (r:Rl):Option Nat:=(ax r.body).findSome? (ko ts t)
theorem rU {α β:Type} (f:α→Option β) (l:List α) (k:Nat) (a:α) (h:l[k]? =some a):(l.drop k).findSome? f=match f a with
  |some p=>some p
  |none=>(l.drop (k+1)).findSome? f:=by
 have hlt:k<l.length:=by
  rcases Nat.lt_or_ge k l.length with h'|h'
  ·exact h'
  ·rw [List.getElem?_eq_none h'] at h;cases h
 rw [aeh hlt] at h;simp only [Option.some.injEq] at h;rw [List.drop_eq_getElem_cons hlt,List.findSome?_cons,h]
 cases f a<;>rfl
theorem ME {e p:Ex} (hp:p∈ax e) (hl:p.l=none) (hk:p.nd.kind=0):p.nd.gs.length≤(bH e).length:=by
 unfold bH;have:fw p=p.nd.gs:=by simp [fw,hl,hk]
 rw [←this];obtain ⟨a,c,h⟩:=List.append_of_mem hp;rw [h];simp;omega
theorem sS (k:Nat):jl k=244∨jl k=245∨jl k=246:=by
 unfold jl
 split
 ·exact .inl rfl
 ·split
  ·exact .inr (.inl rfl)
  ·exact .inr (.inr rfl)
theorem yM (b:Nat) (sv:Value) (ts:List Ty) (tl:List (Ty×Value)) (t:Ty) (tv:Value) (rl:List (Rl×Value)) (r:Rl) (bv:Value) (w:World) (h:MC b w sv ts tl) (ht:RC b w tv t.rels rl) (hr:aH b w r.body bv) (hmem:r∈t.rels):
  Calls Tryz.prog 117 #[.agg #[sv],.agg #[.int .i64 t.place,.string t.name,tv],.agg #[.int .i64 r.place,.string r.name,bv]] w fun e' w'=>e'=.returned (iy 5 (kF ts t r))∧Below w.heap.size w w':=by
 obtain ⟨ma,mn,mc,rfl⟩:=h.form;obtain ⟨va,vn,vc,rfl⟩:=ht.form;obtain ⟨ra,rv,rfl⟩:=hr.isI;have W0:Below w.heap.size w (((w.alloc (.cells #[.slice ma mn mc] 75)).alloc (.cells #[.int .i64 t.place,.string t.name,.slice va vn vc] 110)).alloc (.cells #[.int .i64 r.place,.string r.name,.iface ra rv] 159)):=(((Below.refl _ _).alloc aeg _).alloc (by simp) _).alloc (by simp;omega) _;have xJ:=af (h.below W0);have uL:=af (ht.below W0);have Ji:=af (hr.but (But.of_below W0));have MB:=af (((ai.new w #[.slice ma mn mc] 75).alloc (.cells #[.int .i64 t.place,.string t.name,.slice va vn vc] 110)).alloc (.cells #[.int .i64 r.place,.string r.name,.iface ra rv] 159));have YB:=af ((ai.new' (w.alloc (.cells #[.slice ma mn mc] 75)) #[.int .i64 t.place,.string t.name,.slice va vn vc] 110 (w.heap.size+1) (by simp)).alloc (.cells #[.int .i64 r.place,.string r.name,.iface ra rv] 159));have okp:=ht.okp r hmem;have okg:=ht.okg r hmem;have kg:=af W0;generalize hR:kF ts t r=R;have Ev:=af hR;have Pm:=(ae xJ).blt;clear W0 h ht hr hR hmem;go_enter Tryz.func117,Tryz.ntmps117;go_wp2_with fail;refine (qQ r.body b _ _ Pm (ae Ji) okp).mono ?_;rintro e1 w2 ⟨IK,rfl,hb2,l,l1,l2,l3⟩;obtain ⟨oa,oc,rfl⟩:=au l3;have ll:l.length=(ax r.body).length:=by rw [←l1];simp
 have B2:=af ((ae kg).trans (hb2.mono (ae kg).size));have L1:=af l1;have L2:=af l2;have L3:=af l3;have M2:=af ((ae xJ).below hb2);have T2:=af ((ae uL).below hb2);have MF:=af ((ae MB).below hb2);have W9:=af ((ae YB).below hb2);have nQ:=(ae B2).size;clear hb2 l1 l2 l3;have f0:=dU;have f1:=fe;have f2:=fo;have f3:=cZ;have f4:=dV;have f5:=dW;have g1:=iA;have g2:=iB;have g3:=dY;have g4:=gq;have g5:=gz;have h2:=iC;have h3:=dZ;have h4:=gu;have h5:=gB;go_wp2_with fail
 go_loopw [17] (fun u17 wr=>∃(k:Nat),k≤(ax r.body).length∧u17=.int .i64 k∧Below w2.heap.size w2 wr∧Hid (((ax r.body).drop k).findSome? (ko ts t)=R)) (fun u _=>(ax r.body).length-(intOf u).toNat)
 case atStart=>exact ⟨0,by omega,rfl,Below.refl _ _,Ev⟩
 case round=>
  obtain ⟨k,hk,rfl,hbr,HQ⟩:=hrel;have HB:=af hbr;have Dn:=hbr.size
  by_cases hlt:k<(ax r.body).length
  ·have hkl:k<l.length:=by omega
   obtain ⟨q1,c1,e1,kc⟩:=aK (ak (w':=wr) (ae L3) (fun g cs f _ hh=>hbr.block g (lt_of_some hh))) k l[k].2 (by simp [aeh hkl]);simp only [Value.slice.injEq] at e1;obtain ⟨rfl,_,rfl⟩:=e1;have dF:=(ae L2 l[k] (List.getElem_mem hkl)).but (b:=b) (But.of_below hbr);have hk':(ax r.body)[k]? =some l[k].1:=by rw [←ae L1];simp [aeh hkl]
   generalize l[k]=q at*;obtain ⟨q1,qv⟩:=q;simp only at kc dF hk';have hkn:(k:Int)<((ax r.body).length:Int):=by omega
   have hR:=ae HQ;rw [rU _ _ _ _ hk'] at hR;have hin:=List.mem_of_getElem? hk';have m0:wr.cell? ⟨w.heap.size,0,none⟩=some (.slice ma mn mc):=((ae MF).below hbr).cell rfl;have ml:=((ae MF).below hbr).lt;obtain ⟨y0,y1,y2⟩:=((ae W9).below hbr).three;have yl:=((ae W9).below hbr).lt;have Xa:=af ((ae M2).below hbr);have Le:=af ((ae T2).below hbr);clear hbr hk' HQ
   match q1,dF,hR,hin with
   |⟨nq,some xq,some yq⟩,⟨vx,vy,hv,rx,ry⟩,hR,hin=>
    have dS:=af (show ((ax r.body).drop (k+1)).findSome? (ko ts t)=R from hR);subst hv;clear rx ry hR hin
    rcases sS nq.kind with wY|wY|wY
    all_goals
     rw [wY] at kc;clear wY;go_wp2;go_roundw
     case rel=>exact ⟨k+1,by omega,by go_num,ae HB,dS⟩
     case measure=>simp [intOf];omega
   |⟨nq,none,rq⟩,dF,hR,hin=>
    rcases dF with ⟨l7,gv,hv,hrow⟩|⟨l7,hv⟩|⟨l7,hv⟩
    ·have hle:=ME hin rfl l7;have hnn:ko ts t ⟨nq,none,rq⟩=rT ts nq.gs:=by simp [ko,l7]
     rw [hnn] at hR;obtain ⟨xa,xn,xc,rfl⟩:∃a n c,gv=.slice a n c:=by
      obtain ⟨a,c,e⟩:=au hrow;exact ⟨a,_,c,e⟩
     subst hv;have bx:Below wr.heap.size wr (wr.alloc (.cells #[.int .i64 nq.place,.slice xa xn xc] 236)):=(Below.refl _ _).alloc aeg _;have C:=af (AA b nq.place _ ts tl _ nq.gs _ ((ae Xa).below bx) (ak hrow (fun g cs f _ hh=>bx.block g (lt_of_some hh))) (by simp only at hle;omega));have ny:=af ((ae HB).trans (bx.mono Dn));clear hrow bx hnn
     cases hn:rT ts nq.gs with
     |some p=>
      rw [hn] at hR C;have dS:=af hR;clear hn hR;go_wp2_with fail;refine (ae C).mono ?_;rintro e w3 ⟨rfl,hb3⟩;have B3:=af ((ae ny).trans (hb3.mono (ae ny).size));clear hb3;unfold iy gW;go_wp2;go_ret;rw [←ae dS];exact ⟨rfl,(ae B2).trans ((ae B3).mono nQ)⟩
     |none=>
      rw [hn] at hR C;have dS:=af hR;clear hn hR;go_wp2_with fail;refine (ae C).mono ?_;rintro e w3 ⟨rfl,hb3⟩;have B3:=af ((ae ny).trans (hb3.mono (ae ny).size));clear hb3;unfold iy;go_wp2;go_roundw
      case rel=>exact ⟨k+1,by omega,by go_num,ae B3,dS⟩
      case measure=>simp [intOf];omega
    ·subst hv;have bx:Below wr.heap.size wr (wr.alloc (.cells #[.int .i64 nq.place,.string nq.n1] 238)):=(Below.refl _ _).alloc aeg _;have ny:=af ((ae HB).trans (bx.mono Dn));have OB:=af (ai.new wr #[.int .i64 nq.place,.string nq.n1] 238)
     cases hn:cu t nq.n1 with
     |none=>
      have hnn:ko ts t ⟨nq,none,rq⟩=some nq.place:=by simp [ko,l7,hn]
      rw [hnn] at hR;have dS:=af hR;have C:=af (l8 b t.place t.name _ t rl nq.n1 _ ((ae Le).below bx) hn);clear hn hR bx hnn l7 hin;go_wp2_with fail;refine (ae C).mono ?_;rintro e w3 ⟨rfl,hb3⟩;have B3:=af ((ae ny).trans (hb3.mono (ae ny).size));obtain ⟨o0,o1⟩:=((ae OB).below hb3).two;have ol:=((ae OB).below hb3).lt;clear hb3;unfold bn;go_wp2_with (go_at_call 73;refine (jP _ 5 _).mono ?_;rintro e w4 ⟨rfl,rfl⟩;unfold gW bn);go_ret;rw [←ae dS];exact ⟨rfl,(ae B2).trans ((ae B3).mono nQ)⟩
     |some r2=>
      have hnn:ko ts t ⟨nq,none,rq⟩=none:=by simp [ko,l7,hn]
      rw [hnn] at hR;have dS:=af hR;obtain ⟨za,zv,_,_,hcall⟩:=nR b t.place t.name _ t rl nq.n1 _ ((ae Le).below bx) r2 hn;have C:=af hcall;clear hn hR bx hnn l7 hin hcall;go_wp2_with fail;refine (ae C).mono ?_;rintro e w3 ⟨rfl,hb3⟩;have B3:=af ((ae ny).trans (hb3.mono (ae ny).size));obtain ⟨o0,o1⟩:=((ae OB).below hb3).two;have ol:=((ae OB).below hb3).lt;clear hb3;go_wp2_with (go_at_call 73;refine (OW _ _).mono ?_;rintro e w4 ⟨rfl,rfl⟩);go_roundw
      case rel=>exact ⟨k+1,by omega,by go_num,ae B3,dS⟩
      case measure=>simp [intOf];omega
    ·subst hv;have hnn:ko ts t ⟨nq,none,rq⟩=Jh ts t nq.n1 nq.p1 nq.n2 nq.p2:=by simp [ko,l7]
     rw [hnn] at hR;have bx:Below wr.heap.size wr (wr.alloc (.cells #[.int .i64 nq.place,.int .i64 nq.p1,.string nq.n1,.int .i64 nq.p2,.string nq.n2] 240)):=(Below.refl _ _).alloc aeg _;have ny:=af ((ae HB).trans (bx.mono Dn));have C:=af (Dr b nq.place nq.p1 nq.p2 nq.n1 nq.n2 _ ts tl t _ rl _ ((ae Xa).below bx) ((ae Le).below bx));clear bx hnn l7 hin
     cases hn:Jh ts t nq.n1 nq.p1 nq.n2 nq.p2 with
     |some p=>
      rw [hn] at hR C;have dS:=af hR;clear hn hR;go_wp2_with fail;refine (ae C).mono ?_;rintro e w3 ⟨rfl,hb3⟩;have B3:=af ((ae ny).trans (hb3.mono (ae ny).size));clear hb3;unfold iy gW;go_wp2;go_ret;rw [←ae dS];exact ⟨rfl,(ae B2).trans ((ae B3).mono nQ)⟩
     |none=>
      rw [hn] at hR C;have dS:=af hR;clear hn hR;go_wp2_with fail;refine (ae C).mono ?_;rintro e w3 ⟨rfl,hb3⟩;have B3:=af ((ae ny).trans (hb3.mono (ae ny).size));clear hb3;unfold iy;go_wp2;go_roundw
      case rel=>exact ⟨k+1,by omega,by go_num,ae B3,dS⟩
      case measure=>simp [intOf];omega
   |⟨nq,some xq,none⟩,dF,hR,hin=>exact dF.elim
  ·have hR:=ae HQ;rw [List.drop_of_length_le (by omega)] at hR;have hkn:¬((k:Int)<((ax r.body).length:Int)):=by omega
   have dS:=af hR;clear hbr hR;go_wp2;go_ret;rw [←ae dS];exact ⟨rfl,(ae B2).trans ((ae HB).mono nQ)⟩
